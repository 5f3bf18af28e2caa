import PyProof.Rows.All
import Wide.All
import OpenK.AllK
import Wide.FinOn
import Lean
import PyProof.EqAt
import PyProof.EqKinds
import PyProof.TupleCall
import KE.KIntText
import PyProof.Rows.SortShell
import PyProof.Rows.CallKwBuiltin
import KE.KSortKey
import KE.KDictSum
import PySem.Challenge.RW_manyhands_k11_whole_alike
set_option linter.all false
set_option genSizeOf false
set_option Elab.async false
set_option maxRecDepth 100000
set_option maxHeartbeats 4000000
def HL:=@PySem.wpAny_bind
def HM:=@Option.bind_eq_some_iff
def HN:=@PySem.wpAny_pure
def HP:=@List.mem_cons_of_mem
def HQ:=@List.mem_cons
def HR:=@if_neg
def HS:=@PySem.Heap.get?_push_of_some
def HU:=@List.mem_append
def HV:=@List.mem_cons_self
def HX:=@List.size_toArray
def HY:=@Ne.symm
def HZ:=@List.map_cons
def IA:=@if_pos
def IB:=@Option.map_eq_some_iff
def IE:=@List.mem_map_of_mem
def IF:=@List.length_map
def IG:=@List.mem_singleton
def IH:=@List.length_cons
def II:=@List.mem_append_right
def IJ:=@List.getElem?_eq_some_iff
def IK:=@decide_eq_false
def IL:=@List.length_append
def IM:=@List.getElem?_eq_getElem
def IN:=@List.nodup_cons
def IP:=@List.mem_map
def IQ:=@Nat.le_refl
def IR:=@Bool.false_ne_true
def IS:=@List.mem_append_left
def IT:=@decide_eq_true
def IU:=@PySem.Heap.get?_push_size
def IV:=@Nat.lt_of_lt_of_le
def IW:=@List.map_append
def IY:=@PySem.Heap.lt_size
def IZ:=@Bool.and_eq_true
def JA:=@Bool.false_eq_true
def JB:=@List.nodup_append
def JC:=@List.append_nil
def JD:=@Nat.le_trans
def JE:=@decide_eq_true_eq
def JF:=@PySem.PassesOwn.never
def JG:=@List.getElem?_map
def JH:=@List.getElem?_set_ne
def JI:=@List.not_mem_nil
def JJ:=@Array.getElem?_eq_getElem
def JK:=@Nat.ne_of_lt
def JL:=@List.append_assoc
def JM:=@if_false
def JN:=@Option.some.inj
def JO:=@PySem.wpAny_call_entry
def JP:=@List.lookup_cons
def JQ:=@PySem.wpAny_truthy_bool
def JR:=@List.map_map
def JS:=@PySem.wpAny_holding
def JT:=@if_true
def JU:=@Nat.zero_le
def JV:=@Array.length_toList
def JW:=@List.getElem_mem
def JX:=@Int.emod_lt_of_pos
def JY:=@PySem.sizeLine_eq
def JZ:=@List.getElem?_eq_none
def KA:=@List.getElem?_append_right
def KB:=@List.filter_cons_of_neg
def KC:=@PySem.wpAny_callSpecial?_slot
def KD:=@of_decide_eq_true
def KF:=@List.getElem?_set_self
def KG:=@PySem.Heap.get?_update_other
def KH:=@beq_eq_false_iff_ne
def KI:=@PyProof.Rows.wpS_bind
def KJ:=@List.filter_cons_of_pos
def KL:=@List.pairwise_cons
def KM:=@List.mem_filter
def KN:=@List.length_zip
def KO:=@List.getElem?_append_left
def KP:=@Int.emod_nonneg
def KQ:=@List.map_congr_left
def KR:=@List.filter_eq_self
def KS:=@PySem.wpAny_mono
def KU:=@List.length_singleton
def KW:=@PySem.F.slot_dict_keyiterator_next
def KY:=@PySem.wpAny_newObj_type
def KZ:=@List.nil_append
def LA:=@List.take_of_length_le
def LB:=@or_false
def LC:=@List.drop_eq_getElem_cons
def LD:=@PySem.wpAny_field
def LF:=@PySem.Heap.SameBut.update
def LG:=@List.all_eq_true
def LH:=@Prod.mk.injEq
def LI:=@Bool.not_true
def LJ:=@PySem.wpAny_rule
def LK:=@Int.toNat_natCast
def LL:=@PySem.mem_of_lookup
def LM:=@PyProof.Rows.callWith_type1
def LN:=@List.replicate_succ
def LO:=@List.length_set
def LP:=@List.find?_cons
def LQ:=@Bool.eq_iff_iff
def LS:=@PyProof.Rows.wpS_pure
def LU:=@PySem.wpAny_dictEntries
def LV:=@beq_self_eq_true
def LW:=@beq_iff_eq
def LX:=@Option.bind_some
def LY:=@PySem.wpAny_dictEpoch
def LZ:=@Nat.lt_or_ge
def MB:=@Nat.lt_of_le_of_lt
def MC:=@List.getElem?_toArray
def MD:=@List.any_cons
def MF:=@Int.le_refl
def MH:=@PySem.MeetsSeq.plain_remove_loop
def MJ:=@List.take_succ_eq_append_getElem
def ML:=@PySem.wpAny_Call_Name_kw
def MM:=@List.length_range
def MN:=@List.length_nil
def MO:=@PySem.Calls.spliced_cons
def MQ:=@PySem.F.plainAttrs_list
def MU:=@Bool.and_self
def MV:=@PySem.wpAny_loadPart'
def MX:=@List.cons_append
def MY:=@List.nodup_nil
def MZ:=@List.mem_filterMap
def NA:=@PySem.Paired.length
def NB:=@PySem.wpAny_typeNameOfWhole_keyiter
def NC:=@Nat.le_of_lt
def ND:=@List.mem_iff_getElem?
def NE:=@List.map_nil
def NG:=@List.length_replicate
def NH:=@List.length_filter_le
def NI:=@List.forIn_cons
def NJ:=@List.filter_map
def NK:=@List.cons.injEq
def NM:=@Array.getElem?_toList
def NN:=@PySem.wpAny_seqItems
def NO:=@Nat.lt_irrefl
def NP:=@List.flatten_cons
def NQ:=@List.filter_congr
def NR:=@List.all_cons
def NS:=@PySem.Calls.callWith_builtin
def NT:=@PySem.wpAny_setField_rec
def NU:=@PySem.F.slot_NoneType_hash
def NV:=@List.nodup_iff_pairwise_ne
def NW:=@List.mem_of_getElem?
def NX:=@PySem.wpAny_passesOwn
def NY:=@List.mem_range
def NZ:=@PySem.Heap.get?_update_self
def OA:=@List.zipIdx_cons
def OB:=@List.length_take
def OC:=@Nat.le_succ
def OD:=@PySem.F.slot_tuple_iterator_next
def OE:=@PySem.Calls.evalArgs_plain
def OF:=@decide_eq_false_iff_not
def OG:=@PySem.F.plainAttrs_dict
def OH:=@Option.map_some
def OI:=@List.length_eq_zero_iff
def OJ:=@List.getElem?_replicate
def OK:=@List.findIdx?_eq_some_iff_getElem
def OL:=@PySem.Heap.size_push
def OM:=@PySem.wpAny_typeNameOf_keyiter
def ON:=@PyProof.Rows.slot_tuple_getitem
def OO:=@List.eraseIdx_eq_take_drop_succ
def OP:=@List.Perm.refl
def OQ:=@PySem.F.slot_dict_get
def OT:=@Nat.ne_of_gt
def OU:=@List.take_append_drop
def OV:=@Bool.not_eq_eq_eq_not
def OX:=@not_or
def OY:=@PySem.Calls.spliced_nil
def OZ:=@PySem.wpAny_notOrdered_dict
def PB:=@PyProof.Rows.listUpdate_at
def PD:=@Array.getElem?_eq_some_iff
def PF:=@of_decide_eq_false
def PH:=@Nat.le_of_eq
def PJ:=@List.zip_cons_cons
def PK:=@List.getElem_range
def PL:=@PySem.wpAny_attempt
def PM:=@List.pairwise_iff_getElem
def PN:=@List.forIn_nil
def PP:=@Bool.not_false
def PQ:=@PySem.wpAny_specialOf
def PR:=@PySem.slot_dict_contains
def PU:=@PySem.F.args_tuple_add_2
def PV:=@Option.isSome_iff_exists
def PX:=@List.pairwise_map
def PY:=@decide_true
def PZ:=@PySem.F.entry_tuple_add
def QA:=@PySem.SeqAt.EqAt.int_int
def QB:=@PySem.Obj.data_mapFields
def QC:=@Nat.lt_succ_self
def QD:=@List.perm_middle
def QE:=@List.drop_length
def QF:=@PySem.F.slot_tuple_add
def QG:=@List.filter_eq_nil_iff
def QH:=@PySem.wpAny_Call_method
def QI:=@decide_false
def QJ:=@List.zipIdx_nil
def QK:=@true_and
def QL:=@PyProof.Rows.get?_update_seq
def QM:=@PySem.wpAny_standAt
def QN:=@PySem.wpAny_letGo
def QO:=@List.range_eq_range'
def QP:=@PySem.wpAny_forIn_list
def QQ:=@PySem.F.args_dict_keyiterator_next_1
def QR:=@Bool.and_false
def QS:=@PyProof.Rows.wpS_forRange
def QT:=@PyProof.Rows.listItems_at
def QU:=@PySem.F.entry_dict_keyiterator_next
def QV:=@List.map_id
def QW:=@List.filter_sublist
def QX:=@List.filterMap_cons
def QY:=@PySem.wpAny_isTrue_Compare1
def QZ:=@PySem.wpAny_isOneOf_keyiter
def RA:=@PySem.wpAny_execs_nil
def RB:=@PySem.codeAny_mono
def RC:=@List.filter_filter
def RD:=@List.filter_append
def RE:=@PySem.F.slot_zip_next
def RF:=@PySem.call_meets
def RG:=@PySem.MeetsSeq.entry_remove_loop
def RH:=@PySem.wpAny_updateSeq_pair
def RI:=@PySem.wpAny_updateDictKeys
def RJ:=@bne_self_eq_false
def RK:=@Nat.le_succ_of_le
def RL:=@List.ext_getElem?
def RM:=@PySem.wpAny_setField
def RN:=@PySem.wpAny_fieldsOf
def RO:=@Nat.zero_add
def RP:=@Nat.succ_le_succ
def RQ:=@List.length_drop
def RS:=@List.filter_cons
def RT:=@PySem.F.slot_dict_setdefault
def RU:=@PySem.wpAny_onRaise
def RW:=@PySem.wpAny_newList
def RX:=@PySem.W.kia_one
def RY:=@List.of_mem_zip
def RZ:=@List.Perm.of_eq
set_option hygiene false
section open Lean
def z'E:Nat->Syntax->String
|0,_=>""
|n+1,s=>match s with
 |.node _ k a=>a.foldl (λr x=>r++z'E n x) s!"n{a.size} {(toString k).replace "Lean.Parser." "~"}\n"
 |.atom _ v=>s!"a{v}\n"
 |.ident _ _ v _=>s!"i{v}\n"
 |_=>"m\n"
def z'D(f:SourceInfo):Nat->List String->Syntax×List String
|n+1,x::l=>let r:=(x.drop 1).toString;match x.front with
 |'n'=>let c:=(r.takeWhile Char.isDigit).toString;let (a,l):=c.toNat!.fold (λ_ _ (a,l)=>let (y,l):=z'D f n l;(a.push y,l)) (#[],l);(.node f ((r.drop (c.length+1)).toString.replace "~" "Lean.Parser.").toName a,l)
 |'a'=>(.atom f r,l)
 |'i'=>(.ident f r.toRawSubstring r.toName [],l)
 |_=>(.missing,l)
|_,l=>(.missing,l)
def z'K:List (String×String):=[("P","n3 ~Term.paren\nn2 ~Term.hygienicLParen\na(\nn1 hygieneInfo\ni[anonymous]"),("D","n1 ~Tactic.tacticSeq\nn1 ~Tactic.tacticSeq1Indented"),("E","n2 ~Term.dotIdent\na."),("A","n2 ~Term.app"),("B","n1 null"),("C","n0 null"),("F","n2 null"),("G","n3 null"),("H","n1 ~Tactic.rcasesPatMed"),("I","n1 ~Tactic.rcasesPat.one"),("J","n2 ~Tactic.rcasesPatLo"),("K","n1 ~Tactic.optConfig"),("L","n4 ~Term.basicFun"),("M","n1 ~Term.hole\na_"),("N","n2 ~Term.byTactic\naby")]
def z'Z(r:SourceInfo)(f:String):Syntax:=(z'D r 999 (((f.takeWhile (·≠'\r')).toString.splitOn "\n").flatMap λs=>match z'K.lookup s with|some x=>x.splitOn "\n"|_=>[s])).1
local macro_rules|`(z [$x,*])=>do let a:=x.getElems;let mut r:="";for i in [0:a.size/2] do {r:=s!"{r}\r{match a[2*i]!.raw.isStrLit? with|some s=>s|_=>a[2*i]!.raw.getId.toString}\r{z'E 999 a[2*i+1]!}"};return (Syntax.mkStrLit (z'K.foldl (λr p=>r.replace (p.2++"\n") (p.1++"\n")) r)).raw
def z't't:String:=z ["pc!",(by simp[Cg,Bk,sSeq,Gg,Cn,Ct,Cq,Et,Ds,Co,Mn,Cu,fT,Ee,Aa,Fq,f2,Jk,Ko,Kd,Od,Lx,Cb,Du,f1,Ac,Ag,Gb,fC,Gj,Cd,Al,Df,Eh,Bn,Ci,Bf,Ai,Cw,Ea,Az,Dl,Eo,Bl,Ax,At,Bv,Ap,Cj,Mo,Di,HT.sIx,List.getElem?_cons_zero,List.getElem?_cons_succ]),"!6",(by split at e),"!H",(by constructor),"!#",(by refine' DL.aV KX G ?a ?l ?c ?k ?b;(case a=>k_is);(case l=>k_is);(case c=>k_is);(case k=>k_is);(case b=>exact λ_ _ _ _ _ _=>DL.nX λ_=>rfl)),"!$",(by refine' DL.aV KX G ?a ?l ?c ?k ?b;(case a=>k_is);(case l=>k_is);(case c=>k_is);(case k=>k_is);(case b=>exact λ_ _ _ _ _ _=>DL.lK λ_ _=>rfl)),"#+",(by dsimp only),"#D",(by exact this),"!*",(by refine' DL.dW KX G ?a;(case a=>k_is)),"!1",(by obtain⟨ka,bi⟩:=cN ha),"!/",(by intro x y dx dy d G H Q sub rx ry e k),"!.",(by dsimp only;(show W.findIn _ _ _=_);k_is),"!%",(by dsimp only;refine' DL.dJ ?a ?i ?l ?c ?k ?b;(case a=>k_is);(case i=>k_is);(case l=>k_is);(case c=>k_is);(case k=>k_is);(case b=>exact λ_ _ _ _ _ _=>DL.lK λ_ _=>rfl)),"!d",(by intro z;cases z),"!e",(by by_cases hk:k=d),"!,",(by dsimp only;refine' DL.fD KX G ?a;(case a=>k_is)),"!5",(by rename_i h;cases e;subst h),"!?",(by obtain⟨t,rfl⟩:=rx),"!F",(by rename_i hl;cases e),"!0",(by intro X hP hw hK hc i J s Z H E I hf st hg;subst hP hw hK),"!A",(by unfold fT;rw[this];rfl),"!P",(by simp only[HU,HQ,LH]),"!Q",(by intro J s Z H Q I h),"!2",(by obtain⟨f0,f1,f2,f3,f4,f5⟩:=hf it d_),"!;",(by obtain⟨x,e1,e⟩:=HM.mp e),"#&",(by simp only[JA,JM]),"#8",(by by_cases hb:b=a),"!(",(by refine' DL.aV KX G ?a ?l ?c ?k ?b;(case a=>k_is);(case l=>k_is);(case c=>k_is);(case k=>k_is);(case b=>exact λ_ _ _ _ _ _=>DL.us3 λ_ _ _=>rfl)),"!:",(by obtain⟨q0,h0,rfl⟩:=IP.mp hq),"!=",(by obtain⟨q,hq,rfl⟩:=IP.mp hd),"!D",(by obtain⟨v,rfl,rv⟩:=eX r),"#$",(by exact hA.live b hb),"!+",(by refine' DL.qQ KX G ?a;(case a=>k_is)),"!K",(by intro vs ds d G H Q sub r e k),"!q",(by exact k _ G H aR_ Au.bl),"#9",(by rw[fT!];exact MF _),"!'",(by dsimp only;refine' DL.dJ ?a ?i ?l ?c ?k ?b;(case a=>k_is);(case i=>k_is);(case l=>k_is);(case c=>k_is);(case k=>k_is);(case b=>exact λ_ _ _ _ _ _=>DL.us4 λ_ _ _ _=>rfl)),"!)",(by refine' DL.aV KX G ?a ?l ?c ?k ?b;(case a=>k_is);(case l=>k_is);(case c=>k_is);(case k=>k_is);(case b=>exact λ_ _ _ _ _ _=>DL.us4 λ_ _ _ _=>rfl)),"!3",(by obtain⟨a1,a2,a3,a4,a5,a6,k1,k2,k3,k4,k5,k6,hA⟩:=h';refine k!),"!9",(by simp only[Op.nm,D.tup.injEq,NK,D.int.injEq]at e),"!B",(by obtain⟨o',e1⟩:=I.base.there b o e O),"!G",(by obtain⟨ds,e1,e⟩:=HM.mp e;show"!6"),"!O",(by obtain⟨its,r,pl,hz⟩:=I.list hq),"!S",(by obtain⟨a,vs,rfl,qa,ra⟩:=bT rx),"!T",(by intro vs ds d M G H Q sub m r e k),"!X",(by obtain⟨p,vs,rfl,q,rr⟩:=bT r),"!^",(by cases bD rx;cases bD ry;cases e),"!n",(by unfold Cw Ea;rw[S_,ep!];simp),"!o",(by subst e;exact I1.fpOk x_ (I1.hok.fresh x_)),"!t",(by rename_i h;rw[IZ,IZ,JE]at h),"!x",(by subst hb;rw[bV]at e;cases e),"!y",(by obtain⟨wt,wn,qa,hA⟩:=h),"#%",(by subst q1;rw[dL];show"!H"),"#,",(by unfold Cw Ea;rw[S_,ea!]),"#4",(by obtain⟨a,rfl,q⟩:=O),"#@",(by rintro(z|⟨z,_⟩|z)),"#A",(by rintro(z|⟨_,z⟩|z)),"!&",(by dsimp only;refine' DL.dJ ?a ?i ?l ?c ?k ?b;(case a=>k_is);(case i=>k_is);(case l=>k_is);(case c=>k_is);(case k=>k_is);(case b=>exact λ_ _ _ _ _ _=>DL.us3 λ_ _ _=>rfl)),"!-",(by dsimp only;refine'⟨?pg,?hd,?po,?sa⟩;(case pg=>k_is);(case hd=>k_is);(case po=>k_is);(case sa=>k_is)),"!4",(by obtain⟨v1,t1,rfl,r1,rr⟩:=bN rr;obtain⟨v2,t2,rfl,r2,rr⟩:=bN rr;cases cM rr),"!L",(by unfold Ao at h;obtain⟨u,r,e1,q,t⟩:=h;subst e1),"!U",(by unfold Au at h ⊢;obtain⟨a,vs,e,q,r⟩:=h),"!W",(by obtain⟨sl,e1⟩:=I.base.slot b o e n hb O),"![",(by obtain⟨a',b',c',e',hm⟩:=w.sgs x O q hq),"!_",(by intro x y dx dy d M G H Q sub m rx ry e k),"!f",(by refine hW h cn ?_;by_cases c1:i∈W.its),"!k",(by cases zD I n r ru<;>cases zD I n' r' ap),"!z",(by obtain⟨its,r,pl,hz⟩:=I.tuple hq),"!{",(by obtain⟨e,n,ne,nf,d⟩:=I.pin p hp),"!|",(by obtain⟨_,vs,B,Y⟩:=m.cell a _ hM),"!~",(by rw[HR c];exact keep rfl rfl w.inv),"#!",(by obtain⟨o,e,c,d⟩:=st;exact ⟨o,e,λv z=>by rw[d]at z;cases z⟩),"##",(by obtain⟨a,vs,rfl,qa,ra⟩:=bU rx),"#'",(by subst hb;rw[mup_same]at e;cases e),"#.",(by obtain⟨o,ho,rfl⟩:=IP.mp hd),"#1",(by simp only[JA,JM,JP,O]at h ⊢),"#6",(by obtain⟨B,Y,_⟩:=kI wi q hq),"#7",(by exact hR M rl _ _ st hL .refl),"#;",(by obtain⟨od,ac,hl⟩:=I.look),"#<",(by have c':=PF c;rw[HR c']at st),"#=",(by have c':=KD c;rw[IA c']at st),"!!",(by dsimp only;refine' DL.b9g (DL.fD KX G ?g) ?a ?i ?l ?c ?k ?mm ?kc ?b;(case g=>k_is);(case a=>k_is);(case i=>k_is);(case l=>k_is);(case c=>k_is);(case k=>k_is);(case mm=>k_is);(case kc=>k_is);(case b=>exact λ_ _ _ _ _ _=>DL.nX λ_=>rfl)),"!7",(by obtain⟨ob,eo,ec,ed⟩:=id g1;obtain⟨ot,yx,_,nt,yz⟩:=g2;unfold Builtin.SmallTypes.nextOf;refine HL (KC (name:=km!) g1.typeIs OD (JO OD g1.typeIs F.entry_tuple_iterator_next ?_ (F.args_tuple_iterator_next_1 _)));show wpAny _ _ (field (.ref jt) 0>>=_) _ _ s),"!8",(by refine dO b6_ λv s1 ⟨x,H1,I1,r1,q1⟩=>?_;refine dO gc! λu s2 ⟨y,H2,I2,r2,q2⟩=>?_;exact hf v u s2 x y H2 I2 r1 r2 q2),"!<",(by intro J s Z H Q I h;refine W.methodCall_KW (pl:=pl) (dO c4_ λu s1 ⟨x,H1,I1,rx,a,dx,fs,ex,ea,l,q⟩=>?_) ht;subst ex;obtain rfl:u=Value.ref a:=rx;refine oZ I1 ea c hm l ?_),"!>",(by obtain⟨v,rfl,r1⟩:=eX r;obtain⟨rfl,rfl,hM⟩:=cI r1 e1;obtain⟨es,B,Y⟩:=((m.cell q.1 _ hM)).2;obtain⟨ys,g1,g2⟩:=zX Y),"!@",(by obtain⟨us,rv,p1,_⟩:=I.list qa;obtain⟨us',ak,p2,_⟩:=I.list qb;have B:=aJ rd;have Y:=aJ re;have h3:=gl_),"!C",(by unfold Builtin.SmallTypes.ownedTupleIsFree;refine HL (LD gz rfl (x:=.none) rfl af!);simp only[JT];refine HL hq_;refine HL (LD gz rfl (x:=.ref TO) rfl ?_)),"!E",(by rintro⟨⟨⟩,h2⟩ s' ⟨rfl,a1,a2,a3⟩;dsimp only;obtain⟨L',b1,b2,b3⟩:=sV jq hk gb a1 a3),"!I",(by intro J s Z H x y v u Q I rx ry h;obtain⟨i,j,rfl,rfl,q⟩:=h;show"!?";obtain⟨t',rfl⟩:=ry),"!J",(by show"!1";obtain⟨kb,kz⟩:=cN hb;obtain⟨kc,z8⟩:=vI bu;refine iU (bA.trans (congrArg some jA)) ?_;refine ifT (bA.trans (congrArg some a3g)) ?_),"!M",(by obtain⟨i,hi,q⟩:=nM hb;obtain⟨p,ds,vs,B,Y,h3,h4,h5⟩:=er.own_ i hi;rw[q]at Y;cases Y),"!N",(by have l1:=congrArg List.length e;have l2:=congrArg List.length e';simp[Jv]at l1 l2;omega),"!R",(by obtain⟨cl,b8⟩:=b3h (X:=X) (scope:=scope) λp hp hf=>I.ok.has p.1 (ie p hp hf)),"!V",(by simp only[(show Builtin.Dict_items.ownsTuple "dict_keyiterator"=false by decide),JA,JM];show wpAny L_ A.in1 (if(Value.ref d==dD_)=true then _ else _) _ _ s;rw[(HR (λz:(Value.ref d==Value.none)=true=>IR z))];refine HL (HN (HL (LU tj tu ?_)));rw[F!]),"!Y",(by have hT:=ax.typeIs;obtain⟨o,ho,hc,hd⟩:=id ax;obtain⟨od,tj,_,tu⟩:=id D),"!Z",(by refine HL (LD eo ed (x:=.ref tt) rfl ?_);rw[(HR (show¬((Value.ref tt==Value.none)=true)from IR))];refine HL (LD eo ed (x:=.int n 0) rfl ?_);refine HL (NN yx yz ?_);simp only[LK,g3]),"!]",(by have I1:Inv X J Z H {s with heap:=h',toks:=tk}:=I.turned mm! f0 f1 f3 f4 f5),"!`",(by unfold wo;refine KR.mpr λq hq=>?_;simp only[ne_eq,decide_not,OV,LI,OF]),"!a",(by refine iY (b:=false) (by show some sK_=_;rw[IF,IK a!]) _ ?_;rw[F!];exact hR s i y7 y8 y9 h nn .refl (by rw[LA a!]at hc;exact hc)),"!b",(by obtain⟨o,es,ep,ho,r⟩:=hm;refine ⟨o,es,ep,kp _ o ?_ ho,r⟩;simp only[HQ,JI,LB,OX];exact ⟨HY fz.2.1,HY fO.2.1,HY f1.2.1,HY f2.2.1⟩),"!c",(by obtain⟨gq,H3,I3,n3⟩:=q3;obtain⟨m',hm,w3⟩:=hN gq H3 n3;exact ⟨m',hm,gq,H3,I3,w3⟩),"!g",(by obtain⟨i,hi⟩:=ND.mp hv;obtain⟨d,_,p⟩:=gM z hi;exact⟨_,_,p⟩),"!h",(by obtain⟨e,he,hv⟩:=hi.2 i acc[i] (by rw[JJ B]);rw[he,NM,JJ B,hv];rfl),"!i",(by have:X.env.scope.names.lookup x=some .free:=hk;rw[k]at this;cases this),"!j",(by have hf:=a7n x k;have hl:∀i∈plc es dw!,i<es.size:=λi hi=>b7u hi),"!l",(by obtain⟨v,rfl,r1⟩:=eX r;obtain⟨p,ys,rfl,q,rr⟩:=a1e sub m r1 e1),"!m",(by obtain⟨hi,r1⟩:=r1;obtain⟨p,dx,vs,rfl,rfl,hH,hl⟩:=a7a m1 q1 hi),"!p",(by simp only[sliceBounds,HT.sIx,Option.getD_none,(show(1:Int)>0 by decide),JT];by_cases h:i<0),"!r",(by show"!;";obtain⟨q,e2,e⟩:=HM.mp e;obtain⟨ZV,e3,rfl⟩:=IB.mp e),"!s",(by obtain⟨e1,e2⟩:=B b hb L;obtain⟨e3,e4⟩:=Y b nN! e2;exact ⟨e3.trans e1,e4⟩),"!u",(by intro x O;obtain⟨r,f,p',g1,g2,g3,g4,g5⟩:=hA.row x O;exact nS!),"!v",(by obtain⟨_,_,_,_,o,_,_,e,ex,_⟩:=I.hok p _ hk;exact⟨o,e,ex⟩),"!w",(by show (wpAny _ _ (field hq! 2>>=_) _ _ _);refine HL (LD gz rfl (x:=.bool false) rfl ?_);refine HL (LD gz rfl (x:=.ref TI) rfl ?_);refine HL (NN gI rfl ?_);refine HL ?_),"!}",(by show"!1";refine iU (bA.trans (congrArg some jB)) ?_;refine iU (bA.trans (congrArg some iH)) ?_;refine ifT (bA.trans (congrArg some a3h)) ?_),"#(",(by show pi_=_;rw[HR h0,HR B,HR Y,HR x3,HR x4,HR x5,HR x6]),"#)",(by obtain⟨oc,od,kV,bn,pm,an,af,ct,du,rfl,lk,b6⟩:=F.ex),"#*",(by have rs:∀j∈rest,j<es.size:=λj hj=>Y j (HP _ hj)),"#-",(by subst hj;rw[hi]at e1;cases e1;rw[KF TV]at e2;cases e2),"#/",(by unfold pyNext;refine HL (PL (KC (name:=km!) hT KW (JO KW hT QU ?_ (QQ _))));refine HL (HN (HL gu_))),"#0",(by have ne:∀{b u},H b=some u->b≠p:=λe=>cJ e hp),"#2",(by rw[HX,HX,<-h3,<-h4,<-B,<-Y];by_cases hl:f_=ai_),"#3",(by obtain⟨its,rv,⟨o,B,Y,n,h3⟩,_⟩:=I.tuple kj!),"#5",(by obtain⟨B,Y⟩:=hA.mq i hi;rw[aw _ pF_];exact pw_),"#:",(by rename_i kvs ep hM;obtain⟨kk,e1,e2⟩:=HM.mp e),"#>",(by cases eF ry;cases e;refine k!;rw[zE rx];show"!q"),"#?",(by rw[qL lr_,qL ls!];exact b1s (mm p hp) (mm q a9)),"#B",(by have hi:i=ft_:=Nat.le_antisymm st.1 hg;subst hi),"#C",(by obtain⟨ad,kvs,vs,j2,US,yu,yw,hn,hs⟩:=hd.ex),"#E",(by cases e;refine ⟨G,ρ,_,er,?_,k⟩;show((Option.some ds)).bind _=_;simp[hl])]
def z'0:String:=z [a!,(by omega),b!,List D,c!,L.mono c_,d!,Inv X J Z H s,e!,Ad->Option D,g!,⟨rfl,rfl,rfl,f4_,rfl,f4_,f4_⟩,h!,List Op,i!,List Value,j!,IA rfl,k!,⟨rfl,?_⟩,l!,Aa 0,n!,aB D!,o!,["thing"],p!,List Str,q!,λ_ _=>rfl,r!,aP _,u!,(by decide+kernel),v!,wl u_,w!,aB Y!,x!,Aa 2,y!,arrOf h2,z!,List Int,A!,some bt_,B!,arrOf st,C!,.bl true,D!,aA 0,E!,s1.heap.objs.size,F!,HR d_,G!,.fn p,H!,(x==("__debug__":Str))=false,I!,Uw U yy,J!,Bm 0,K!,aB aC!,L!,[ap!,ax!],M!,some i,N!,rs.length,O!,.int 0,P!,s2.heap.objs.size,Q!,some x1,R!,.lst xs,S!,bK w_,T!,fC bf_,U!,[aR!,aP_],V!,os.length,W!,Array Value,X!,Gl X x,Y!,aA 1,Z!,DE X own a fa,Aa!,⟨ag_,pd_⟩,Ab!,(d==sysModules)=false,Ac!,s.heap.IsKeyIter it d i es.length ep,Ag!,(show¬((i:Int)<0)from by omega),Ah!,rawInt ((i:Int)+1),Ai!,⟨by show _<=_;simp only;omega,same.its,same.txt⟩,Aj!,Th w x0 d nm,Ak!,(λi v=>∃c u,x.cps[i]?=some c/\v=.str ar_ u),Al!,[A!,K_,none,none,none,none,none,none,none,none],Am!,.int (q.2:Nat),An!,∀K:Bool->Mh->Prop,K b M->ft ρ M K,Ao!,Hk x.d=none/\¬kget wd x.nm=some b8_,Ap!,IntsAre items.toList ns,Aq!,(by simpa using c'),Ar!,Bd p1! wt A_,As!,.dct (k3 eu_ fI_ ev_) 3,At!,Value.bool b==Value.bool c,Au!,.str "numbers",Av!,(by rw[IF];unfold big;omega),Aw!,.Call (.Attribute bq_ "extend" ag) [e] [] ab,Ax!,mirror xs i j ((j - i) / 2),Ay!,jD [(t.B2,a)] (one ⟨_,i9,sN B⟩) d_,Az!,(by simpa using c),AA!,((hs os 0).length:Nat),AB!,((hs os 15).length:Nat),AC!,x.h=0\/x.h=5\/x.h=15,AD!,(by show¬((0:Int)=15);decide),AE!,λi j h5 h6=>?_,AF!,(by show¬((5:Int)=15);decide),AG!,⟨rfl,lo,lo,rfl,g2,g4,g5⟩,AH!,(by show¬((15:Int)=5);decide),AI!,pendingOf h2,AJ!,(none,a0.size),AK!,ts.set k AJ_,AL!,gK rfl (gK rfl rfl b9e) rfl,AM!,(∀x∈xs,∀(R:β->Shared->Prop),(∀y,F x y->R y s)->wpAny r_ A (f x) R E s),AN!,λv hv R hR=>?_,AO!,ys.toArray.filterMap id,AP!,λa b e=>?_,AQ!,l.filter λx=>Lh x p,AR!,λp=>Jp qe! (Lz h p.1),AS!,Str.ofString "taken",AT!,(Str.ofString "taken",.fn ta),AU!,⟨[a],[(Str.ofString "key",v)]⟩,AV!,Fj X.prog X.w X.K X.mg X.base Pz k f fd ps wo!,AW!,aT (d:=k8_) rfl,AX!,(c,seqObj "list" ku.toArray e),AY!,Inv X (J++[lp!,AX!]) Z H s,AZ!,(by rw[fW,aY!]),A0!,Obj.mapSeq λ_=>(#[]:Array Value),A1!,.obj t.B3 [fU!],A2!,List.map_fst_zip qp!,A3!,.obj t.B3 lj_,A4!,mup_ne (HY xq),A5!,Lz s.heap p.1,A6!,⟨Array.Perm.refl _,rfl,rfl,rfl⟩,A7!,(by rw[hsz];exact om),A8!,Jp h5! (Lz s.heap p.1.1)<Jp h5! (Lz s.heap q.1.1),A9!,s.heap.get? a=some (seqObj "list" us.toArray n),Ba!,QT ha rfl ?_,Bb!,PB ha rfl ?_ lm! bY_,Bc!,g.sub (.inl m.1),Bd!,HS _ ((Bc_).trans q),Be!,(o::Wt.eraseIdx j),Bf!,(by rw[JY];omega),Bg!,(by rw[hp];simp),Bh!,.lst ((dC_).map Op.v++du_),Bi!,(s1.heap.push cu!).update s1.heap.objs.size (Obj.mapSeq (·++be!)),Bj!,(Bi!).push Bi_,Bk!,(by rw[(cL _).length_eq,JY];omega)]
def z'00:String:=z [a_,Or.inl rfl,b_,(·.1),c_,(by decide),d_,(by simp),e_,model X.prog X.w,f_,ds.length,g_,Txt P w K mg t,h_,List aF_,i_,wl l!,j_,Fl->Mh->Prop,k_,xs.length,l_,List V,m_,List Nat,n_,List eF!,o_,some ci_,p_,Value->Shared->Prop,q_,s.heap.objs.size,r_,model prog w,s_,D->Mh->Prop,t_,(by omega),u_,Aa 1,v_,fC ay_,w_,Ak.units L,x_,IQ _,y_,Str->Option Value,z_,some (scr ns),A_,.dct [] 0,B_,fC O!,C_,(·.2),D_,wl x!,E_,Aa 5,F_,some ag!,G_,(by simp),H_,Aa 4,I_,⟨_,rfl⟩,J_,Bx 3,K_,some o.v,L_,model P w,M_,Bj G H,N_,List α,O_,Aa 3,P_,(by rw[hA.ro];simp),Q_,some x0,R_,k+1,S_,IA a!,T_,ps.length,U_,.str k,V_,.fn a,W_,[aH!,bf!],X_,.bl false,Y_,oF a1 a2 a3 a4 a5 a6,Z_,os.map Op.v,Aa_,.dct (hT_++[(.tup U!,.fn q)]) (Gp hT_ ah_ e2),Ab_,W.its++[D.tup U!],Ac_,HR (λz:i=.tup [.int h,.int n]=>hn (z▸hi)),Af_,HN (HL (LY tj tu ?_)),Ag_,HN (HL (QZ hT ?_)),Ah_,Obj.mapFields (·.setIfInBounds 1 Ah!),Ai_,⟨same.rows,same.its,jA_⟩,Aj_,s0.heap.objs.size,Ak_,D X.A.in1 hh,Al_,[A!,K_,some o.d,none,none,none,none,none,none,none],Am_,[Am!,.str ⟨#[q.1]⟩],An_,∀x,(kget wd x=none/\kget kb x=none)\/∃k:Str,kget wd x=some U_/\kget kb x=some fA!,Ao_,λi h ⟨o,ho,_,hd⟩=>⟨o,ho,λv z=>by rw[hd]at z;cases z⟩,Ap_,IntsAre jp.toList ms,Aq_,(by rw[yT!];exact g4),Ar_,Bd Ar! wn A_,As_,.bl (if neg then !(b==c)else b==c),At_,IN.mpr ⟨JI,MY⟩,Au_,(aK_).length<5000,Av_,.Call (.Attribute bq_ "insert" ag) [ek,e] [] ab,Aw_,s.cps.toList.map λ_=>.bl true,Ax_,getElem?_pos _ k cr,Ay_,λi j h3 h4=>?_,Az_,(show x - 1<a0.size by omega),AA_,((hs os 5).length:Nat),AB_,(λi h4 h5=>by rw[show i=x+1 - 1 by omega]),AC_,(by show¬((0:Int)=5);decide),AD_,h m st b h3 h4 u,AE_,(by show¬((5:Int)=0);decide),AF_,(∀i,i<lo->rk r y! i<=rk r y! k),AG_,(by show¬((15:Int)=0);decide),AH_,fx ρ=some dl!,AI_,cs.set k (.int (c+1)),AJ_,.int (t+1+m / 3%3),AK_,λ_ _ z=>z,AL_,zI (HN (HN (HN h))),AM_,[z_,au_,hZ!,aT_,some (.lst [.int c0,.int c1,.int c2]),some (.lst [.int t0,.int t1,.int t2]),x6,x7,x8,x9],AN_,[z_,au_,hZ!,none,none,none,none,none,none,none],AO_,(Value.type "int"::r),AP_,g M x y=some d,AQ_,l.filter λx=>Lh x q,AR_,Str.ofString "ours",AS_,Str.ofString "waiting",AT_,B.mem_iff.mp (JW cr),AU_,∀b,M b≠none->M' b=M b,AV_,(c,seqObj "list" ku.toArray n),AW_,eJ aU_ qm! (aT (rX o)) (qP hA),AX_,∀H':Hp,H' c=none->Ji X J H' c,AY_,fN (k:=ql_) ht rfl,AZ_,ksk_tail a false e1 (.ref c) st,A0_,aT (d:=.int 2) rfl,A1_,.obj t.B3 lj!,A2_,(by show _<100;simp),A3_,Array.toList_inj.mp,A4_,λv hv=>?_,A5_,λx y F Q O hy hq=>?_,A6_,(by rw[hsz];omega),A7_,⟨a1,a2,a3⟩,A8_,(by rw[b3,hd]),A9_,⟨_,QL ha λ_=>#[]⟩,Ba_,seqEpoch_at ua rfl ?_,Bb_,wpAny_newTuple ?_ (by show ao!<=_;rw[JY];omega),Bc_,KG _ _ (λz=>hb (by rw[z];exact IG.mpr rfl)),Bd_,g.hist hU ho hn,Be_,checkCount "sorted" 1 1 _,Bf_,⟨_,lf,rfl⟩,Bg_,(by rw[he];rfl),Bh_,hF yy ta wa out,Bi_,seqObj "list" its.toArray 0,Bj_,mup_ne (HY at_),Bk_,mup_ne (HY aw)]
def z'a:String:=z [aa!,Bt M w rl W,ab!,λ_=>True,ac!,Aa 6,ad!,Ad->Option Bool,ae!,.ref a,af!,HN ?_,ag!,.fn o,ah!,Option D,ai!,List D->Option D,aj!,some G!,ak!,wl O_,al!,aB aC,am!,f ρ,an!,D->Ad->Option Ad,ao!,us.length,ap!,"self",aq!,aI aA!,ar!,aA 5,as!,λi hi=>(by cases hi),at!,A.units<cLine,au!,X.A.units+64<cLine,av!,W.txt a,aw!,List Addr,ax!,"name",ay!,"_law_k",az!,Ab v! Af,aA!,aI (λ_ _ h=>aX h),aB!,cX 0,aC!,aA 2,aD!,(by rw[hA.r2];simp),aE!,s.length,aF!,some (.lst ops),aG!,kvs.length,aH!,"hand",aI!,f2 Ai l! B_,aJ!,HR hk,aK!,aA 6,aL!,⟨trivial,?_⟩,aM!,(by rw[u5];simp),aN!,EP X J Z Q,aO!,(e::es),aP!,Jv xs,aQ!,(by rw[hA.r5];simp),aR!,.int h,aS!,Ad->Option Fl,aT!,Dc x=some k,aU!,Cr t M yy a ta wa Wt out S kl ca,aV!,[ap!],aW!,"_law_script",aX!,wl H_,aY!,IA hk,aZ!,Aa 9,a0!,x∈W.its,a1!,(by rw[hA.r4];simp),a2!,Ju ops,a3!,Gd U S Wt,a4!,"_law_item",a5!,PE X a ta,a6!,λ_=>some true,a7!,f2 Ai x! ab_,a8!,aA 3,a9!,aM aH aL aC! aC q!]
def z'aa:String:=z [aa_,(a,b),ab_,fC bg!,ac_,ys.length,ad_,List DictEntry,ae_,q_+1,af_,List d5!,ag_,(by decide),ah_,.tup U!,ai_,es.length,aj_,.ref f,ak_,[a,b],al_,l.length,am_,(by rw[u3];simp),an_,((k:Nat):Int),ao_,.inl rfl,ap_,X.N[i]?=some x,aq_,aB a8!,ar_,⟨#[c]⟩,as_,Ad->Option aQ_,au_,some kj_,av_,ME X own a fa,aw_,List Env,ax_,[aH!,cu_],ay_,.int 1,az_,.ref C,aA_,bY w_,aB_,starEach aO! X.env=e0_::starEach es X.env,aC_,Ce t M o rl W h1,aD_,(by rw[hA.r6];simp),aE_,.str s,aF_,D×D,aG_,((i:Nat):Int),aH_,[aW_],aI_,wl B_,aJ_,aE w! aO,aK_,W.txt x,aL_,(by rw[u4];simp),aM_,.nx ρ,aN_,r.length,aO_,aA 4,aP_,.int n,aQ_,List D,aR_,Ck.refl sub,aS_,List cm_,aT_,some hY_,aU_,aT rfl,aV_,[ap!,bf!],aW_,"_law_ops",aX_,i+1,aY_,aM aH aL D! aC q!,aZ_,λx O=>?_,a0_,(by rw[hA.r3];simp),a1_,D->D->Option D,a2_,o∈U,a3_,[f6!],a4_,Ac l! Ag,a5_,I.tok _,a6_,X.calm=true,a7_,(ro!).any b_=false,a8_,Option Addr,a9_,Option Int]
def z'b:String:=z [ba!,.lst ys,bb!,(x,p),bc!,.fn o,bd!,(λ_ _ e=>by cases e),be!,its.toArray,bf!,"item",bg!,.int 3,bh!,aT (d:=x) rfl,bi!,Ab i_ Af,bj!,[dW!],bk!,aB a9!,bl!,bW S! bI n! bl_ q!,bm!,u++v,bn!,⟨rfl,h⟩,bo!,λb h=>?_,bp!,i∉own,bq!,.rt d,br!,some (.int most),bs!,Dc d=some k,bt!,mup_ne hb,bu!,[Q_,M!,cD!,dq!,hL_,cN!,y],bv!,mixKind P w,bw!,Om P w H h,bx!,X.N.Nodup,by!,Bs v u,bz!,Hs false,bA!,Aa 8,bB!,g i j,bC!,.Call (.Name x p) aO! [] pos,bD!,gN w_,bE!,Ae st,bF!,.int m,bG!,M p=some hH!,bH!,scr ns,bI!,λd hd=>?_,bJ!,Mh->Prop,bK!,k _ _ ao_ e,bL!,[cu_],bM!,List Expr,bN!,(by simp;omega),bO!,Bx 2,bP!,bE ns b a os rs br i c7_ (some iM_) y9,bQ!,aA 9,bR!,[D.non],bS!,(i,p),bT!,W.num x,bU!,Addr->Pc,bV!,(by rw[hA.r1];simp),bW!,.type "int",bX!,.type "str",bY!,some (.int m0),bZ!,[Q!,aj!,K_],b0!,Dc y=some k,b1!,ME X own e f,b2!,MR X.prog X.w X.K M G H,b3!,Jt P w K own M0 G0 F0 M G H Z ρ,b4!,(h1!:Int),b5!,[aH!,bf!,"place"],b6!,List Stmt,b7!,.int i,b8!,.ref it,b9!,Ac x! Ag]
def z'bb:String:=z [ba_,.fn r,bb_,Gi W n rows',bc_,Or.inr rfl,bd_,List MK,be_,Hd t yy a ta wa U s,bf_,.int 2,bg_,OS t M a o rl W,bh_,Aa 7,bi_,f2 Ai x! B_,bj_,w2 Br i_ m1_,bk_,items.size,bl_,aB aU,bm_,List fc!,bn_,W.txt i,bo_,h1+20,bp_,some ah_,bq_,.Name x cb,br_,some bU_,bs_,Mh->D->D->Option D,bt_,.fn w,bu_,IG.mp z,bv_,fs.length,bw_,[aH!],bx_,Wx X.env.scope x,by_,.int i,bz_,I.ok.hd hc,bA_,λb hb=>?_,bB_,vs.length,bC_,aB aO_,bD_,⟨_,_,rfl⟩,bE_,some x,bF_,.int 0,bG_,(by rw[v3];simp),bH_,HP _ O,bI_,ep+1,bJ_,.tup xs,bK_,aT (d:=V_) rfl,bL_,[aH!,lR_],bM_,.bl b,bN_,⟨rfl,rfl⟩,bO_,rs.map Op.v,bP_,eP I q d_,bQ_,its.toArray.size,bR_,Array DictEntry,bS_,K w.params,bT_,De st,bU_,.fn q,bV_,.ref hr,bW_,.type "bool",bX_,.type "tuple",bY_,JU _,bZ_,some hA!,b0_,Cy X.K G d u,b1_,q1.mono x2.g,b2_,u.length,b3_,[A!,Q_,some em!,bp_,some (.bl g),none,none,none,none,none],b4_,some f3_,b5_,[cv_,a4!],b6_,ha J s Z H _ I h,b7_,[o_,Q!,A!,bE_],b8_,.str "undo",b9_,wl eT_]
def z'c:String:=z [ca!,some j5!,cb!,aD D! aK,cc!,Array tX_,cd!,ns.map V.int,ce!,backToKw ab to!,cf!,absurd z.symm q1,cg!,(by rw[q];simp),ch!,W.rows.length,ci!,mup_ne B,cj!,.lst ds,ck!,OR K own G H Z ρ,cl!,f ρ=some d,cm!,fC .non,cn!,some ow!,co!,[hw!],cp!,M a=some hH!,cq!,.int o.h,cr!,ME X own o fo,cs!,(by rw[IF];unfold big;omega),ct!,SB kd a0 st,cu!,seqObj "list" #[] 0,cv!,"_law_one",cw!,PE X b tb,cx!,PE X e te,cy!,Av t.B4 "rows" i_,cz!,aB dM,cA!,vs.toArray,cB!,.inl z,cC!,Ft W x,cD!,some p,cE!,Ao K H ds vs,cF!,λ_ h=>.inl h,cG!,cs.length,cH!,.Name x p2,cI!,(by rw[v4];simp),cJ!,n+1,cK!,some item,cL!,λz=>?_,cM!,ME X own b fb,cN!,some cM_,cO!,[some ew!,bE_],cP!,.nx ρ',cQ!,Sm W h1,cR!,lo+hi,cS!,(by simpa using e),cT!,α->β->Prop,cU!,IY e,cV!,Unit->Shared->Prop,cW!,"_law_number_here",cX!,"_law_found",cY!,.inl rfl,cZ!,List V->Hp->Prop,c0!,Yb X.env.scope x,c1!,.Name x pos,c2!,X.mg x=none,c3!,fC (.int 4),c4!,Av t.B5 "following" i_,c5!,eval o X.env,c6!,.ref q_,c7!,cZ 3,c8!,Ab i_ az!,c9!,⟨rfl,rfl,rfl,rfl⟩]
def z'cc:String:=z [ca_,Gs X (compareOp op) r,cb_,Ak k X.A,cc_,iC w_,cd_,λx=>!x.1,ce_,λx=>x.1.isSome,cf_,eZ (bM aA_ bZ a9! aU r!),cg_,scope.names,ch_,Nm X scope cl C gW_ al bc fp,ci_,.fn a,cj_,some nW_,ck_,ρ.set i ef!,cl_,.tup jR!,cm_,Str×D,cn_,[aR!,ef_],co_,MR P w K M G H,cp_,l[j],cq_,.fn w,cr_,W.its.map λi=>(i,D.lst kS_),cs_,Array Keyed,ct_,(s.heap.update a A0!).push (seqObj "tuple" us.toArray 0),cu_,"operation",cv_,"_law_world_here",cw_,wl cm!,cx_,Ay v!,cy_,y.length,cz_,aE n! aO,cA_,aA 8,cB_,im x,cC_,mup_ne Y,cD_,us.toArray,cE_,H p=none,cF_,Au K G d v,cG_,DE X own b fb,cH_,wl fo,cI_,(by rw[v5];simp),cJ_,Bh d=true,cK_,.type "tuple",cL_,x1.trans x2 m1,cM_,.int (k:Nat),cN_,aG!<big,cO_,acc.length,cP_,[some hP_,k4_],cQ_,λx O hh=>?_,cR_,Cy X.K G,cS_,h.objs.size,cT_,upd H a o,cU_,[ap!,bf!,"parent","sibling"],cV_,[aW!,ay!],cW_,ms.map Op.v,cX_,"_law_base",cY_,[cv_,a4!,rg!,rh_],cZ_,Bk (fC X_),c0_,(x==("__classdict__":Str))=false,c1_,At T!,c2_,x≠"__name__",c3_,Ac u_ Ag,c4_,he J s Z H _ I h,c5_,Bx 4,c6_,∀x,foldedSetIterable iter X.env x=pure x,c7_,some st!,c8_,ns.length,c9_,.ref p]
def z'd:String:=z [da!,ps.zip us,db!,⟨us,[]⟩,dc!,At ac!,dd!,.ref q_,de!,⟨_,e,rfl⟩,df!,dF _ _ dj_,dg!,(s,p),dh!,Dm X scope NF ix,di!,∀y∈cg_,y.2≠.cell,dj!,X.pn++J,dk!,(by rw[g3];simp),dl!,.int j,dm!,er.grow s1,dn!,.str s,do!,k _ G H aR_ Au.int,dp!,Dc a=some ka,dq!,some s,dr!,(.str k::r),ds!,IA hk!,dt!,Dw d d',du!,⟨by simp[big];omega,?_⟩,dv!,ka!<64,dw!,mkHash P w k,dx!,λx O=>fB_,dy!,kget kvs d,dz!,[A!,M!,bE_,dq!],dA!,dE d es ep,dB!,Uy prog w A s a0 kd r,dC!,hF yy ta wa out,dD!,.int i t,dE!,Str×V,dF!,List β,dG!,X.s₀.heap.objs.size,dH!,["sign"],dI!,Bool->Hp->Prop,dJ!,f2 Ai l! v_,dK!,.str x,dL!,.Compare a [op] [b] pos,dM!,.bl true,dN!,[V_,x],dO!,f2 Ai x! T!,dP!,.int j,dQ!,List V->Hp->VK->Prop,dR!,rs.drop i,dS!,Ab i_ mf_,dT!,xs.isEmpty,dU!,.int n,dV!,List (Str×Value),dW!,.ref a,dX!,Fj X.prog X.w X.K X.mg X.base CX k f fd ps sp,dY!,Mg CX X E,dZ!,aG iS,d0!,aE n! aJ_,d1!,aG (bG w!),d2!,.ref b,d3!,.type "list",d4!,Ek t M r f p xs,d5!,D×D×Bool,d6!,Aj N ps bE!,d7!,HP _ hy,d8!,Str.ofString "texts",d9!,[bc!,x]]
def z'dd:String:=z [da_,vs++dvs,db_,Ay m0_,dc_,aA 7,dd_,nn_=true,de_,aG (bG e9_),df_,dF _ _ d8_,dg_,bJ T.V0 T.V1 n!,dh_,scope.kind=.function,di_,Str.ofString "rows",dj_,.inl z,dk_,.tup ds,dl_,.lst vs,dm_,DE X own e f,dn_,s1.trans s2,do_,.Name x p2,dp_,if Ft W a then a else binn,dq_,[none],dr_,λb h=>.inl h,ds_,Str.ofString "",dt_,Ve W x,du_,[o.v],dv_,Hr ks k,dw_,[Q!,aj!,br_,K_,hB_],dx_,(d,x),dy_,Addr->LR,dz_,[A!,Q_,zY_,fN_,y4,some k3!,hM_,cN!,none,none],dA_,λc=>?_,dB_,Int×Int,dC_,hs S o.h,dD_,Value.none,dE_,a==sysModules,dF_,NO _,dG_,some v,dH_,fr b hb,dI_,f1 Bf a4_,dJ_,f2 Ai l! T!,dK_,behindInMarks op b=false,dL_,.fn t.A0,dM_,.str "cut",dN_,Nat->Heap->Prop,dO_,IU _ rfl,dP_,(false,eval a X.env),dQ_,Av t.B3 "taken" i_,dR_,Av t.B3 "waiting" i_,dS_,Ey u_,dT_,.dK kvs,dU_,Sem Bool,dV_,Vb X.K C,dW_,eC aC,dX_,Ex X.K fd ps ds,dY_,Bc dvs ds,dZ_,.str "rows",d0_,aD aC! aK,d1_,.type T,d2_,[cv!],d3_,([]:List Keyword),d4_,kput_len _ _ _,d5_,wo rows i,d6_,a∈W.its,d7_,Str.ofString "parents",d8_,.inr z,d9_,.lst gX!]
def z'e:String:=z [ea!,IA bN!,eb!,i∈W.its/\Ft W x/\¬Wn W.rows i x,ec!,(by rw[g4];simp),ed!,λq hq=>?_,ee!,.tup jL_,ef!,some d,eg!,i∈own,eh!,some b,ei!,s.cps.toList.zipIdx.map eg_,ej!,Bd (Bd M5 a3 n7_) q ei_,ek!,some n,el!,λd hd=>?_,em!,.tup [j8!,a,b],en!,Au X.K H d v,eo!,LF ..,ep!,IA (by simp only[IH];omega),eq!,ops.map Op.v,er!,Bool->Shared->Prop,es!,Kn P w s.heap k u,et!,l.map b_,eu!,A.units+1<cLine,ev!,Tq X.K H dx,ew!,Bg q,ex!,[Q_,M!,cD!,dq!,hL_,hM_,cN!],ey!,h1<3800,ez!,j - 1,eA!,S.length,eB!,Jb g,eC!,es.map kC_,eD!,xs++ys,eE!,[a,b,c],eF!,Addr×Obj,eG!,(s.S.length:Nat),eH!,λp hp=>?_,eI!,"_law_at",eJ!,"_law_hand",eK!,Bc vs us,eL!,.BoolOp .And (b::rest) pos,eM!,.BoolOp .Or (b::rest) pos,eN!,.UnaryOp .Not a pos,eO!,Oj i,eP!,[o_,bE_,some gf_],eQ!,aT (d:=cq_) rfl,eR!,⟨_,dO_,rfl,rfl⟩,eS!,Ac O_ Ag,eT!,.str "put",eU!,Value->Value->Sem Value,eV!,binaryOp .Add,eW!,(show false=true from hs),eX!,some fE!,eY!,s.heap.push iT!,eZ!,aZ (bS fA),e0!,bJ T.U8 T.W3 n!,e1!,us++ds,e2!,PA X aO! t,e3!,aE n! mX!,e4!,At E_,e5!,.builtin id,e6!,⟨.bl _,H,I,rfl,?_⟩,e7!,if(d3_).isEmpty then 0 else 1,e8!,λa b=>?_,e9!,As kp n a0]
def z'ee:String:=z [ea_,Nm X scope cl G2.objs.size gW_ s2 H2 fp,eb_,(by rw[L];simp),ec_,(by rw[g5];simp),ed_,(d::ds),ee_,List.range m.toNat,ef_,.int m,eg_,sgn h n,eh_,Ip X.K r g,ei_,.lst tq!,ej_,.dct (As k4 n bU_) e4,ek_,k _ G H aR_ Au.bl,el_,(by simp;omega),em_,.tup [.str "cut",a,.tup jL_,ef_],en_,Sum.inr y,eo_,.tup dr!,ep_,λ_ K hK=>?_,eq_,(o4_).Nodup,er_,wl fb,es_,{s with toks:=tk},et_,[Q!,F_,br_,some x.v,some x.nm],eu_,.lst [],ev_,.fn wn,ew_,rs.map Bg,ex_,(av!).map Be,ey_,ms.length,ez_,arrOf bf,eA_,(a,oa),eB_,o.n - 1,eC_,(fY_).zip ds,eD_,List dE!,eE_,id! - lI!,eF_,(s'.S.length:Nat),eG_,.int eE_,eH_,Z.set i dG_,eI_,"_law_deed_here",eJ_,eval e X.env,eK_,[o_,K_,none],eL_,.BoolOp .And (a::b::rest) pos,eM_,.BoolOp .Or (a::b::rest) pos,eN_,Ab D_ Af,eO_,[v,ov,iv],eP_,Av t.B4 "texts" i_,eQ_,wl bA!,eR_,Ey l!,eS_,Ay D_,eT_,f2 Ai x! v_,eU_,.lst Z_,eV_,Do t,eW_,x.length,eX_,some aj_,eY_,.ins C dx fs,eZ_,backToKw pos to!,e0_,(false,eval e X.env),e1_,aM aH aL Y! aC q!,e2_,bJ T.U8 T.W4 n!,e3_,A.handled=none,e4_,KA gF_,e5_,eQ T,e6_,As l d v,e7_,Kc aP!,e8_,As kf a0 n,e9_,aB fA]
def z'f:String:=z [fa!,.ref fa,fb!,bJ T.U9 T.V4 n!,fc!,Str×Addr,fd!,D×D×Bool,fe!,.lst bT!,ff!,h1+1,fg!,.int x,fh!,upd H p o,fi!,.int z,fj!,(by rw[q3];simp),fk!,fs ρ,fl!,(λz=>nomatch z),fm!,f1 ρ=some a,fn!,⟨G,ρ,_,er,e1,sZ!⟩,fo!,IJ.mp B,fp!,V.ref p,fq!,.int 9,fr!,.int (i:Nat),fs!,Dp N,ft!,some 1,fu!,Option Value->Shared->Prop,fv!,Vc W pre,fw!,q2 ρ M R,fx!,h.Ns mainGlobals mg,fy!,List Uu,fz!,IT rfl,fA!,.bl hv_,fB!,(none,()),fC!,wl fa,fD!,Bo d7_ fD_ [],fE!,.fn a2,fF!,Ia P w K G kvs es,fG!,Bool->Mh->Prop,fH!,cS h5,fI!,W.rows.map Bg,fJ!,qa i,fK!,Dc y,fL!,st.grow x1 m1,fM!,[A!,M!,cD!,dq!,hL_,hM_,y],fN!,W.its.length,fO!,some fp_,fP!,(by unfold Yl;omega),fQ!,(t.A0,a),fR!,wpS_get ?_,fS!,eU B,fT!,(show i=j by omega),fU!,(Str.ofString "ours",.int yy),fV!,.fn wa,fW!,Addr->Prop,fX!,hU.h.op o ho,fY!,us.toArray.zip cD_,fZ!,a==b,f0!,tupleKind bv!,f1!,.ref x,f2!,bC (cJ q hn),f3!,List α->Prop,f4!,Z.length,f5!,["thing","limit"],f6!,"operations",f7!,[ap!,ax!,bf!],f8!,[ap!,bf!,"place","number"],f9!,(by simp[z])]
def z'ff:String:=z [fa_,.int b,fb_,Bj H H',fc_,List vs_,fd_,Str.ofString "numbers",fe_,Dc i=some ki,ff_,V.ref a,fg_,.int y,fh_,Bj.refl G,fi_,Lc own Z G H,fj_,fa ρ,fk_,z▸O,fl_,if x=n then _ else _,fm_,[F_,ek!,some a,eh!,some pl],fn_,SR K own G0 F0 G H Z ρ,fo_,(backTo ab tE_).any b_=false,fp_,.tup wU_,fq_,Bh d'=true,fr_,(by show A.units+1+Dj xs<cLine;omega),fs_,some (.lst kinds),ft_,x.cps.size,fu_,.Tuple jm n1 tp,fv_,[z,TO,i1,i2],fw_,K.In h,fx_,λ_=>true,fy_,(kz_).Nodup,fz_,IK d_,fA_,λi hi=>?_,fB_,(by simp[W0]at O),fC_,[root,binn],fD_,.fn a1,fE_,kvs.map b_,fF_,Jc kvs,fG_,.int o.tm,fH_,h3.typeIs,fI_,.fn wt,fJ_,ch!<5000,fK_,rs[k],fL_,Bd M p A_,fM_,[A!,bE_,M!,y],fN_,some nm,fO_,[some hP_,fO!,bp_],fP_,Keyed->Int,fQ_,⟨_,i1,pB B⟩,fR_,n<=a0.size,fS_,hs os h,fT_,List hZ_,fU_,L'.length,fV_,hs S h,fW_,II _ (II _ d_),fX_,Cy K G,fY_,us.zip us,fZ_,((eC_).map C_).map Nn,f0_,.own a,f1_,s.W.map Op.v,f2_,.frz o u,f3_,.int k,f4_,(by decide+kernel),f5_,["parts","checks"],f6_,"other",f7_,[ap!,bf!,"parent"],f8_,[ih_,ax!,"deed"],f9_,[ap!,"ours"]]
def z'g:String:=z [ga!,[ap!,f6_],gb!,[il_,cW!],gc!,hb J s1 Z H1 _ I1 q1,gd!,fC gc_,ge!,f1 Bf c3_,gf!,X.wish E,gg!,Da (Co (fT iw!) iA!),gh!,some x,gi!,Ab v! mf_,gj!,Ab D_ az!,gk!,wl E_,gl!,aT (d:=q1) rfl,gm!,(by simpa using hb),gn!,2 ^ 62,go!,f2 Ai a7! B_,gp!,wl dO!,gq!,(∀b∈fp,H' b=none),gr!,some mr!,gs!,wl v_,gt!,i != 0,gu!,(some o.v::r),gv!,Ac aI! (Ac dJ! Ag),gw!,λ_=>rfl,gx!,fC (.int 5),gy!,getMethod ov m pl,gz!,PA X es t,gA!,Bx 6,gB!,Ak R_ X.A,gC!,aG (bG K!),gD!,IN.mp nd,gE!,aB i3!,gF!,Mu N vs,gG!,w2 bz! b9_ bj_,gH!,f2 Ai u_ T!,gI!,Ut xs lo hi,gJ!,.str ar_,gK!,jU T,gL!,bM aA_ bZ bQ! aU r!,gM!,Zc x,gN!,.inr rfl,gO!,its.length,gP!,aB nm!,gQ!,aE bk! (aE bk! i6!),gR!,.bool true,gS!,Td aj.heap H,gT!,W.keepIn K aj_=true,gU!,NameKind.free,gV!,aE K! aO,gW!,b8.sub x c h,gX!,chl W.rows x,gY!,aB ar!,gZ!,.ListComp dw vD! scope pos,g0!,⟨1,?_⟩,g1!,∀y∈cg_,y.2=.free->vI_,g2!,f7 _ I2.lt,g3!,w.nm i hi,g4!,h1<3900,g5!,ρ.length,g6!,(by simp[e]),g7!,(by rw[q5];simp),g8!,λ_ _ _ h=>h,g9!,s2.trans s3]
def z'gg:String:=z [ga_,[aH!,f6_],gb_,fC (.int 16),gc_,.str "root",gd_,PT X a tA,ge_,Iq t,gf_,.int (i:Nat),gg_,An 1 iB!,gh_,Cm t,gi_,PassesOwn e_ X.A X.env X.xe,gj_,It->Hp->Prop,gk_,Ac H_ Ag,gl_,rv.length,gm_,λρ M R=>R true M,gn_,((0:Nat):Int),go_,An 4 (wl (Eo O_ Ax c1_)),gp_,Ab b9_ (Ab gp! (Ab (wl a7!) Af)),gq_,.str "write",gr_,i.natAbs,gs_,wl sE!,gt_,List (κ×V),gu_,HL ?_,gv_,bQ bX dN rfl T.R9 dD cb!,gw_,λ_ _ _ _ _=>a5s,gx_,ag.atName,gy_,Ak k A,gz_,aD Y! aK,gA_,aB e1_,gB_,I.hok.fresh x_,gC_,wl (fC dZ_),gD_,f1 Bf gk_,gE_,envOfC qual scope s.heap.objs.size f cd,gF_,(by simpa using hi),gG_,.int a t,gH_,Jl t,gI_,aB aY_,gJ_,.str ar_,gK_,aD ne_ aK,gL_,Fi t,gM_,[.ref p],gN_,Gq l d,gO_,⟨e,?_⟩,gP_,absurd z.symm q2,gQ_,λ_ _ _ _ _=>a6j,gR_,K.f _ _,gS_,Rl rows i p s rows',gT_,i∈W.its,gU_,(by rfl),gV_,IA gU_,gW_,NL++NF,gX_,Rt t M o rl W h1 a1 a2 a3 a4 a5 a6 k1 k2 k3 k4 k5 k6,gY_,x∈W.its,gZ_,G2.objs.size,g0_,(λr M'=>match r with|.rt d=>R d M'|.nx _=>R .non M'),g1_,∀cl C al bc fp,PG ch_ tg g,g2_,Au K H d v,g3_,.tup jK_,g4_,[fg!,fg_,.int (z+(k:Nat))],g5_,U++v,g6_,(by rw[q4];simp),g7_,Ck.refl er.sub,g8_,r1.mono s2.g,g9_,.tup U!]
def z'h:String:=z [ha!,s.cps.toList.length,hb!,DT X own a ft,hc!,(by rw[z]),hd!,sub.free hp,he!,if x=x then _ else _,hf!,f2 ρ=some b,hg!,starEach (a::[]) X.env=dP_::starEach [] X.env,hh!,er.grow x,hi!,(aN_:Int),hj!,.tup [.str "drop",a],hk!,(by unfold big;omega),hl!,Ao X.K H ds vs,hm!,cs.map λc=>(ar_:Str),hn!,Bs v' u',ho!,fs ρ=some ds,hp!,s.heap.IsTuple l1 xs,hq!,.ref z,hr!,bL uo,hs!,s.cps.toList.zipIdx.map ks!,ht!,λc hc=>?_,hu!,λK hK=>hK,hv!,.int o.h,hw!,.lst eq!,hx!,(show v=.none from hy),hy!,some o.v,hz!,∀o∈ops,DG o.d,hA!,.lst eq!,hB!,Mr ks k,hC!,.inl d8_,hD!,Bo di_ fE! fD!,hE!,Tl P w K own G H Z ρ M,hF!,MA X own es fs,hG!,(x::os),hH!,.dct kvs ep,hI!,JW _,hJ!,some eu_,hK!,k3 (.lst fI!) fI_ ev_,hL!,Mh->List D->Option D,hM!,MA X own aO! fs,hN!,Ef M1 d,hO!,kget kvs y,hP!,Bd M p (.dct (As kvs y v) (Gp kvs y ep)),hQ!,.lst cu,hR!,some (.lst ex_),hS!,[hR_,some hQ!],hT!,[A!,Q_,some em!,bp_,none,none,none,none,none,none],hU!,wl f,hV!,fo ρ=some G!,hW!,mup_ne a1,hX!,m - 1,hY!,HW i os c0 c1 c2 t0 t1 t2,hZ!,some (.int N),h0!,kl.map λh=>(D.int h,D.fn (ca h)),h1!,((dC_).length:Nat),h2!,l.map f,h3!,aT (f:=Aa 0) rfl,h4!,.done (.ret .none),h5!,((h4_).map C_).map eB!,h6!,Bd M q eu_,h7!,(by simpa using B),h8!,List (List Key×V),h9!,o.ExactDict]
def z'hh:String:=z [ha_,ft ρ,hb_,.dct n6! e2,hc_,mup_ne h6,hd_,Gi W x rows',he_,.obj C fs,hf_,λx gw hy=>?_,hg_,Ck.laid x.sub hp,hh_,.int k,hi_,.tup [ov!,a,b,c],hj_,Ri F0 G1,hk_,ds.map some++List.replicate (i3_ - f_) none,hl_,Ao X.K H es ws,hm_,Au X.K H d' v',hn_,(if _<=big then _ else none)=_,ho_,.Name y py,hp_,s.heap.IsTuple l2 ys,hq_,LJ ?_,hr_,⟨hp,g,d,tk,os⟩,hs_,BB s.heap l1 l2,ht_,λc o e=>?_,hu_,KR.mpr q!,hv_,k=="undo",hw_,(a2!).map Op.v,hx_,(show u=.none from O),hy_,λx O=>hd x bH_,hz_,Pg .str a2! [],hA_,ks.Nodup,hB_,some o.nm,hC_,Pd s.heap a es ep,hD_,"texts",hE_,f ρ M R,hF_,Yj X.prog X.w X.K r gm,hG_,MT X own a ft,hH_,rR I sub r hk,hI_,some (.lst y6_),hJ_,k3 a b c,hK_,.tup ak_,hL_,some (.lst ew_),hM_,some (.int (a:Nat)),hN_,q.1=x,hO_,Aa 0 ρ=some bt_,hP_,.int an_,hQ_,λK hK=>?_,hR_,some (Be q),hS_,Gh own Z H1,hT_,W.its.map λi=>(i,D.fn fJ!),hU_,q.2.1.map b_,hV_,.ref l,hW_,a0.toList,hX_,x - 1,hY_,.lst Z_,hZ_,Int×Int,h0_,eM aU_ hA.ob hF2,h1_,ku.zip us,h2_,.int h,h3_,seqObj "list" us'.toArray n',h4_,(h1_).zip ds,h5_,S++[o],h6_,acc.toList,h7_,Bc xs us,h8_,.inr dj_,h9_,seqObj "list" (eC!).toArray 0]
def z'i:String:=z [ia!,∀b u,h.get? b=some u->h'.get? b=some u,ib!,s.W.length,ic!,[o_,b4_,qJ_],id!,(s'.S.length:Nat),ie!,I.ok.bs b o e,if!,(∀x c,X.env.cells.lookup x=some c->c≠b),ig!,λb o e n hb O=>?_,ih!,dn.length,ii!,λb hb=>?_,ij!,λ_ _ e=>e,ik!,λm hm=>?_,il!,"_law_most",im!,"_law_other",in!,"_law_many",io!,some lU!,ip!,TP X J Z Q,iq!,Vd s.S s.W,ir!,fC iq_,is!,PE X e t,it!,Rj 0 1,iu!,.bl false,iv!,.inl h,iw!,f2 Ap u_ cm!,ix!,Av t.B5 "preceding" i_,iy!,Tp (Lp 1 Ag),iz!,wl ir!,iA!,fT rO_,iB!,w2 Br mf! v!,iC!,Bt M w ak W,iD!,wl (fC C!),iE!,f2 Ai l9! B_,iF!,f1 Dq a4_,iG!,X.mg "range"=none,iH!,(false,eval b X.env),iI!,.str "move",iJ!,f2 b hb,iK!,I7.unpinned,iL!,BD r ta tb,iM!,some lU!,iN!,Gs X (compareOp ff) r',iO!,.Compare a [op,ff] [b,c] pos,iP!,(by simp only[HX];omega),iQ!,(none::r),iR!,K.In s.heap,iS!,[z_,none,none,none,none,none],iT!,W.emptyDict,iU!,Lg f v fs,iV!,(show False from r),iW!,H a=some eY_,iX!,True.intro,iY!,A.under (.builtin "type.__call__" ⟨.ref C::us,kw⟩),iZ!,.List es pos,i0!,.Call tC_ aO! [] pos,i1!,.Call tC_ [] [] pos,i2!,Str->Option NameKind,i3!,aM aH aL a8! aC q!,i4!,f2 Aw aI! u_,i5!,λ_ _ _ _ _=>n!,i6!,aE bk! aO,i7!,.ref t,i8!,⟨_,ii,rfl⟩,i9!,An 5 (w2 Br bj_ b9_)]
def z'ii:String:=z [ia_,.own x,ib_,.ListComp dw vD! scope ab,ic_,H a=none,id_,Td h H,ie_,IY ho,if_,b∈X.ex\/dG!<=b,ig_,vg b o e O,ih_,"outline",ii_,λ_ _ _ _ n=>n,ij_,λ_ _ _ e=>e,ik_,[V_,.lst cW_],il_,"_law_rows",im_,ms.map λo=>lQ!,in_,Jo Rc ms,io_,[Q_,io!],ip_,Cu (fT (Ee "tuple" l!)),iq_,.str "bin",ir_,f1 Hb a4_,is_,∀dq,isTrue e X.env dq=(do let v <-dq;standAt e.pos;holding [v] l5_),it_,Oy (Li t) 0 c3_,iu_,its.toList,iv_,PS X st t,iw_,some e,ix_,St->Hp->Prop,iy_,aT (d:=bc!) rfl,iz_,Gu t.B5 1 (Hv t) Af,iA_,.Name x ig,iB_,⟨.int _,H,a5_,I_,q⟩,iC_,pyNext b8!,iD_,Hs true,iF_,Gl X "range",iG_,λ_=>Aw,iH_,Ah go_ (Aq (Fo (Da (Cu sa!)) (wT (w2 iG_ (Oq v! aX!) (wl kC!)))) (Bw D_ aX! iD!) Bq),iI_,II _ z,iJ_,.str "set",iK_,Int->Int->V,iL_,2 ^ 64,iM_,.lst su!,iN_,lastMarks [op,ff] [b,c]=false,iO_,f1 Bf b9!,iP_,if i<0 then -i else i,iQ_,r'.length,iR_,Am 2 (Cp t) c8!,iS_,[z_,aT_,o_,eX!,none,none],iT_,W.instObj C q_,iU_,.int 9,iV_,.str "",iW_,[.non,.non],iX_,Aa 10,iY_,bQ bX dN rfl T.R9 dD gz_,iZ_,Ac B_ (Ac B_ (Ac B_ Ag)),i0_,f2 Df O_ v_,i1_,Ip.m bZ,i2_,((p,w)::P.zip vs),i3_,N.length,i4_,.str "texts",i5_,W.codeIn K af qual=true,i6_,wl (fC m5_),i7_,⟨_,ho,rfl⟩,i8_,(by simpa using hv),i9_,(by simpa using hw)]
def z'j:String:=z [ja!,((sIx n 0 lo:Nat):Int),jb!,aD a8! aK,jc!,aE w! mX!,jd!,HN ⟨_,rfl,HN h⟩,je!,aB cA_,jf!,gJ D!,jg!,(k_:Int),jh!,z.length,ji!,aA 10,jj!,compareOp .In,jk!,upd H l ba!,jl!,Px kf kp xs,jm!,(by rw[HX];omega),jn!,(b0::v),jo!,z▸w,jp!,.inr (.inr d8_),jq!,Gq kf n,jr!,z▸this,js!,backTo ab ve!,jt!,ns.map .int,ju!,nE w_,jv!,mup_ne jr,jw!,mup_ne uc,jx!,⟨[u],[]⟩,jy!,λv _=>v=.bl true,jz!,Fm st,jA!,mD (nI T) c! rfl,jB!,λa b hm=>?_,jC!,ForInStep.yield r,jD!,bJ T.V0 T.V2 n!,jE!,bJ T.U9 T.V5 n!,jF!,[(Str.ofString "following",D.fn f),(Str.ofString "preceding",D.fn p)],jG!,bb!∈W.rows,jH!,(λv z=>by cases z),jI!,f7 _ (r9 p hp),jJ!,∀a vs,Gc K H a vs->Gc K H' a vs,jK!,if x=i then cutT [s] bn_ else W.txt x,jL!,bW S! bI K! bl_ q!,jM!,.str i,jN!,upd H p dl_,jO!,Ck G H G' H',jP!,(by rw[hl];exact IS _ q0),jQ!,⟨B6,B7,B8,B9,C0,C1,C2,C3,C4,C5,C6,C7⟩,jR!,[aR!,aP_,.int (k0:Nat)],jS!,(∀v G' H',Ck G H G' H'->Au K G' d v->Q v H'),jT!,f2 g fa fb,jU!,(by show 3<=1000;decide),jV!,⟨x,rfl,?_⟩,jW!,s3 c hc,jX!,vU h.ok,jY!,Ex X.K fd ps [],jZ!,Ck.laid sub hp,j0!,.type "NoneType",j1!,List Bool,j2!,Ck.refl s2,j3!,wo W.rows i,j4!,cs.map λ_=>.bl true,j5!,.int b,j6!,λj hj=>?_,j7!,eval bq_ X.env,j8!,.str "put",j9!,.str "set"]
def z'jj:String:=z [ja_,.ref sl,jb_,aD aC aK,jc_,Builtin.Tuple.tupleExact _,jd_,V->Option Int->Option Int->Hp->VK->Prop,je_,λ_ _ _ _ _=>bH (i:=0) (show([cv!,a4!]:List Str).Nodup by decide+kernel) rfl a_,jf_,fI (n:=10) rfl,jg_,aM aH aL a9! aC q!,jh_,ac_<=sizeLine,ji_,(show false=true from fx),jj_,.ref l,jk_,.dT kvs,jl_,[(.non,.non)],jm_,u++[a0],jn_,z▸ha,jo_,aE K! aJ_,jp_,.inr d8_,jq_,Gq kp n,jr_,HL fin,js_,l.most=some n,jt_,"_law_row",ju_,List.Pairwise.nil,jv_,mup_ne oo,jw_,mup_ne ub,jx_,(D.non::u),jy_,aB jg_,jz_,z▸IE (f:=b_) hq,jA_,λx=>?_,jB_,λx O y hy=>?_,jC_,HP _ hp,jD_,names.map λ(n,k)=>if nH! then(n,NameKind.cell)else(n,k),jE_,flt b hb,jF_,(by kernel_rfl),jG_,(P!,Uo us n),jH_,W.num i,jI_,hA.lt x O,jJ_,⟨_,mup_same⟩,jK_,[fg!,fg_,dP!],jL_,[fg!,fg_,.int z],jM_,.tup [fg!,fg_],jN_,λb u e=>?_,jO_,∀j∈ix,j∉own,jP_,(by rw[hl];exact II _ q0),jQ_,mup_ne z,jR_,oO hN hv hd b6,jS_,fb ρ,jT_,aE!<=16,jU_,⟨G1,ρ,d,dm!,e,wg!⟩,jV_,DA X own es fs,jW_,mup_ne h5,jX_,DA X own aO! fs,jY_,cB sub qa,jZ_,Int->Int->D,j0_,wl f1,j1_,bs.map Value.bool,j2_,bnd d ρ,j3_,λv H2 hy=>?_,j4_,Ao K G ds vs,j5_,xs.map D.str,j6_,starEach (e::[]) X.env=e0_::starEach [] X.env,j7_,[.Subscript bq_ ix p2],j8_,.str "write",j9_,∀o∈ops,Vo o]
def z'k:String:=z [ka!,ops.length,kb!,.tup [fq!,fq!],kc!,Yp K ps.length g,kd!,(by simpa using h),ke!,(aE!:Int),kf!,∀(us us':i!),Bc vs us->Bc ws us'->∀(j:Nat) u u',us[j]?=some u->us'[j]?=some u'->SeqAt.EqAt A.in1 s u u' kd_,kg!,ak.length,kh!,cs.map Ox,ki!,mQ ds es hl,kj!,cB sub q,kk!,some jb,kl!,backTo ab (starEach [a] X.env),km!,Str.ofString "__next__",kn!,b5q (qS rfl (LV _)),ko!,IsZip s.heap z TI TO .none,kp!,IsPair s.heap TO p q,kq!,s.heap.IsTupleIter i2 l2 k2,kr!,HL (RU ?_),ks!,sgn h m,kt!,(oM!).set p.toNat (.int v),ku!,λx O q hq=>?_,kv!,λc hc=>?_,kw!,Lb xs ys,kx!,λK hK=>?_,ky!,(·.2.1),kz!,[hv!,.int o.n,ky_,o.d],kA!,(∀b,b≠p->M' b=M b),kB!,Oo P w h es ks,kC!,fC b8_,kD!,mup_ne c2,kE!,Oo P w s.heap es.toArray ks,kF!,[(root,.fn r1),(binn,.fn r2)],kG!,.fn a3,kH!,dE a es ep,kI!,w2 gm fa fb,kJ!,hp x HV,kK!,hp.map _,kL!,l.map Op.v,kM!,Cy X.K G x v,kN!,[Q_,pt!,K_,some pt_],kO!,a4a (A:=A.in1) hu I m sub e r hk λo s' I' ho=>?_,kP!,upd H a (dE a au bI_),kQ!,if _ then _ else _,kR!,(show its.toArray.any ev!=its.any ev! by simp),kS!,its.map λi=>(i,g i),kT!,[A!,bE_],kU!,.int (N!:Nat),kV!,Bg rs[k],kW!,(p,kvs,ep),kX!,⟨t1,t2,?_⟩,kY!,(by simpa using uz),kZ!,HR (HY h.1),k0!,decide hN_,k1!,Gh own Z H,k2!,Aa 2 ρ,k3!,.lst k2_,k4!,[.Subscript o i p2],k5!,p1 rfl,k6!,f ρ=some a,k7!,.lst (nw.map Be),k8!,.obj C [],k9!,Cf N ps.length q]
def z'kk:String:=z [ka_,ka!<=100,kb_,[.str "bin",kb!],kc_,Gc X.K H a vs,kd_,Dw oz! oz_,ke_,us.toArray.size,kf_,λj=>Dw oz! oz_,kg_,qM rd re rv ak (h us us' rv ak),kh_,mV ds es hl,ki_,⟨.bl _,H,I,rfl,q⟩,kj_,.int base,kk_,ys.map (·.length),kl_,[a].length+(d3_).length+e7!<30,km_,(by size_fits),kn_,ZipApart z TI TO i1 i2 l1 l2,ko_,IsPair s.heap TI (.ref i1) (.ref i2),kp_,s.heap.IsTupleIter i1 l1 k1,kq_,(∀c ob,c≠z->c≠TO->c≠i1->c≠i2->s.heap.get? c=some ob->h'.get? c=some ob),kr_,h5.objs.size,ks_,.tup [j9!,a,.int p,.int v],kt_,.tup cn_,ku_,k==k',kv_,hA.noOb oM6,kw_,[F_,bE_],kx_,pA l c k,ky_,.int o.tm,kz_,rows.map b_,kA_,ks.length,kB_,plc es dw!,kC_,(·.key),kD_,[(root,.non),(binn,.non)],kE_,mup_ne (HY jy),kF_,(by simpa using hl),kG_,Bj G G',kH_,XM M G H M' G' H',kI_,st.grow x1 m1,kJ_,⟨G1,ρ,M1,R,kI_,r1,yW!⟩,kK_,(by rw[hp.length_eq];omega),kL_,((j:Nat):Int),kM_,upd H a (dE a au (Gp kvs d ep)),kN_,dictGet a u>>=_,kO_,(u++o::v),kP_,!Dw d d',kQ_,λw hw=>nN I r1 rx n1 r2 r n2 (by have:=jX X.A;omega) w i9_,kR_,qZ I r2 r n2,kS_,(bn_).map Be,kT_,some an_,kU_,.ext x2,kV_,.ref ad,kW_,ho.run I st e λd M1 v G1 H1 u s1 r1 x1 m1 q1 I1 rx=>?_,kX_,.lst ((zA!).map Bg),kY_,IA (by simp[big];omega),kZ_,W.rows.filter λq=>decide hN_,k0_,wl fx,k1_,s.root hb,k2_,l.map Be,k3_,fb ρ=some y,k4_,some em_,k5_,⟨#[s.cps.toList.getD k 0]⟩,k6_,g ρ=some b,k7_,Dg C m M d,k8_,.lst [],k9_,HN (HL (RN ho hd ?_))]
def z'l:String:=z [la!,fa ρ=some y,lb!,Lb p5_ p6!,lc!,λx h=>(by cases h),ld!,(0,a0.size,0),le!,HP _ hz,lf!,Value.int a t,lg!,Pu f1 ρ M a,lh!,α->β,li!,List (Keyed×D),lj!,[fU!,AT!],lk!,(by rw[hA.ob];simp),ll!,.fn (ca h),lm!,(by rw[HX,JY];omega),ln!,qT _ _,lo!,PySem.Fin->Shared->Prop,lp!,(a,seqObj "list" #[] e1),lq!,HY u7,lr!,hs U o.h,ls!,hk q a9,lt!,.builtin "sorted",lu!,seqObj "list" us.toArray 0,lv!,ca o.h,lw!,aW hb hq,lx!,(Sum.inr a:Key),ly!,ds.map Nn,lz!,(nomatch e),lA!,if h=o.h then q else ca h,lB!,IG.mp y,lC!,List Key×Addr×Value,lD!,fs.map b_,lE!,uU F S λaf A outer s H E L=>hb L,lF!,e=x\/H e=some ia_,lG!,(((hs s.S o.h).length:Nat):Int),lH!,upd H x o,lI!,(s.S.length:Nat),lJ!,X.env.scope.kind,lK!,(∀b,M0 b≠none->M' b=M0 b),lL!,aT (d:=.fn p) rfl,lM!,I.freeC x c e,lN!,I.base.keep b o e n hb O,lO!,[ap!,ax!,f6_],lP!,[ap!,bf!,"first","many"],lQ!,(o.nm,o.v),lR!,λz=>hc f9!,lS!,hd.nm hU,lT!,[aH!,ax!],lU!,.lst cW_,lV!,HU.mp ho,lW!,[aW!,cX_,aW_,il!],lX!,[cv_,a4!,im!],lY!,"_law_gone",lZ!,hs.2 b (JK (IV cU! (I.ok.cab x c xv hc))),l0!,[aW!,cX_,aW_],l1!,.int 10,l2!,Inv X J Z H' s',l3!,eval a X.env,l4!,.bool b,l5!,h J s Z H _ I hw,l6!,.BoolOp .And [a] pos,l7!,.BoolOp op [a] pos,l8!,kl.flatMap (hs S),l9!,f2 Ai l! ab_]
def z'll:String:=z [la_,.Constant (.str s0) n0 p0,lb_,mirror_perm _ _ _ _,lc_,.inr ao_,ld_,setPending h2 ((AI!).push ld!),le_,[z_,au_,hZ!,hJ!,qb_,qb_,none,none,none,none],lf_,λz hz=>?_,lg_,⟨rfl,hg _ hK⟩,lh_,Pu f ρ M d,li_,.fn ta,lj_,[fU!,AT!,(Str.ofString "waiting",.fn wa)],lk_,hA.cl h hh,ll_,aT (d:=aR!) rfl,lm_,[V_,o.v],ln_,some h2_,lo_,aT (d:=bF_) rfl,lp_,IG.mp hb,lq_,ku.toArray.zip cD_,lr_,hk p hp,ls_,o.n=b4!+1,lt_,(s.heap.push cu!).update s.heap.objs.size (Obj.mapSeq (·++cD_)),lu_,some (.inl (.inl o.h)),lv_,(Sum.inl a:Key),lw_,.str x t,lx_,ds.all λd=>(Ms d).isSome,ly_,Jo Nn ds,lz_,⟨_,rfl,r⟩,lA_,HU.mp hh,lB_,κ×Value,lC_,W.instObj C dx,lD_,aT (f:=Aa 1) rfl,lE_,λ_ q=>q,lF_,∃u,h'.get? e=some u,lG_,[.lst jt!],lH_,bC (hm b _ q λz=>z),lI_,(s1.S.length:Nat),lJ_,Cr t M0 yy a ta wa Wt out S kl ca,lK_,some (.inr [.inl o.h,.inl o.n]),lL_,Om X.prog X.w H' h',lM_,λx c e=>?_,lN_,I.base.free b o e n O,lO_,[ap!,qW_,bf!,"behind","text"],lP_,.dct qY_ ep,lQ_,[o_,Q!,aj!,K_,hB_,y5],lR_,"message",lS_,[aH!,"fresh"],lT_,∀o∈ms,o∈U,lU_,"_law_letters",lV_,hs.2 b (JK qS!),lW_,[aW!,cX_,in!],lX_,"_law_name",lY_,[cv_,cv!],lZ_,[eJ!,aW_],l0_,[aW!,cX_,eJ!,aW_],l1_,.int 60,l2_,starEach es X.env,l3_,⟨v,H,I,r,h⟩,l4_,s.W++[o],l5_,truthy v,l6_,.BoolOp .Or [a] pos,l7_,dO b6_ λv s1 ⟨x,H1,I1,r1,q1⟩=>?_,l8_,.IfExp c a b pos,l9_,(Ju S).map Op.v]
def z'm:String:=z [ma!,⟨σ,H',I.unwish,q⟩,mb!,(st::rest),mc!,Hp->Prop,md!,assignEach es X.env,me!,PG X tg g,mf!,Av t.B4 "parents" i_,mg!,Int->Int->Int,mh!,Ac ac! Ag,mi!,.lst [.tup [x,p]],mk!,hf b hb,ml!,⟨rfl,I.turned (t':=s.toks) (λb o hb e=>eb b o hb e) f0 f1 f3 f4 f5⟩,mm!,λb o hb e=>kk b o gm! e,mn!,.str "redo",mo!,hi - lo,mp!,ha pos J s Z H _ I h,mq!,PI X tg iter wi,mr!,.lst bO_,ms!,V->Hp->VK->Prop,mt!,f2 Ai O_ ab_,mu!,.BinOp a op b pos,mv!,f dD! (.int j u),mw!,wl (Dl Ag),mx!,rI Yg λi j=>.int (i*j),my!,rI BA λi j=>.int (i / j),mz!,f2 Ai u_ v_,mA!,rI AZ λi j=>.int mz_,mB!,decide (i<j),mC!,compareOp .LtE,mD!,Sv λi j=>.bl mD_,mE!,Sv λi j=>.bl mE_,mF!,ho J s2 Z H2 x y v u _ I2 r1 r2 q2,mG!,some eG_,mH!,its.toArray.isEmpty,mI!,U.map Op.v,mJ!,[z_,aT_,o_,eX!,b4_,y],mK!,Vp s.heap x dx C mA,mL!,W.isFn K aj_=true,mM!,{s with toks:=s.toks+1},mN!,show Lg f v ((k,x)::r)=(if k=f then(k,v)::r else(k,x)::Lg f v r)from rfl,mO!,f2 Al v_ (f2 Bn l! u_),mP!,aD aY_ aK,mQ!,Ac (f1 Bi (Ac l! (Ac s4! Ag))) Ag,mR!,Jn X e5! r,mS!,PE X o ta,mT!,Lp 3 Ag,mU!,aM aH aL aY_ aC q!,mV!,upd ty_ x mU_,mW!,kQ I hg hm ?_ be,mX!,aE aq_ aO,mY!,backTo pos tE_,mZ!,An 3 (wl i0_),m0!,Cs (w2 Br i_ gC_),m1!,Dm.cons (j:=0) Dm.nil,m2!,Oz CX P w K mg base N qual scope f af A outer s H E,m3!,f2 Ai u_ ab_,m4!,An 3 (wl (Az t2!)),m5!,bootBuiltins x=some e5!,m6!,bootBuiltins x=some d1_,m7!,w2 Br i_ i6_,m8!,Bu (Am 4 Go t4!),m9!,ws.length]
def z'mm:String:=z [ma_,.obj t.B3 (hF yy ta wa ag!),mb_,.Return iw_ pos,mc_,pQ bK_ (uL h),md_,setItem ov iv v,me_,aT (d:=fr!) rfl,mf_,Ab ak! Af,mg_,Ba t.B4 "has_item" 2 (Ch t) i_ az!,mh_,An 8 (wl (f2 Al u_ (Az mh!))),mi_,[D.tup [x,p]],mj_,{s with heap:=h'},mk_,λb hb=>(mk!).1,ml_,.fn (qa q1),mm_,I1.kept (t':=s1.toks) λb o e=>HS _ e,mn_,.lst W.its,mo_,s.heap.push {cls:=.type "range",data:=.fields #[.int lo t,.int hi u,.int 1 v]},mp_,dO mp! λus s1 ⟨vs,H1,I1,r1,q1⟩=>?_,mq_,.str "drop",mr_,[z_,ca!,aT_,gr!,cN!,y5],ms_,Int->Int->Prop,mt_,Gs X (binaryOp op) r,mu_,an_ - z,mv_,Int->Int->Bool,mw_,w2 Br dQ_ D_,mx_,Av t.B3 "outline" i_,my_,rI (λ_ j=>0<j) λi j=>.int (i%j),mz_,i ^ j.toNat,mA_,f2 Ai u_ B_,mB_,Sv λi j=>.bl mB!,mC_,decide (i<=j),mD_,decide (j<i),mE_,decide (j<=i),mF_,Fa 1 [] dS_ J! a6! sJ_,mG_,kvs.isEmpty,mH_,⟨H,I,q⟩,mI_,S.Perm os,mJ_,Am 1 (Dk t) bi!,mK_,W.plainGet_of hg,mL_,[z_,aT_,o_,eX!,y4,y5],mM_,f2 Aw iE! (fC eT!),mN_,Option Value,mO_,hX (uG (a0j tb! (sO (bM zH zJ gv_ aC r!)))) eZ! eA,mP_,I.tok _,mQ_,iA T.T5 rfl,mR_,.inr ho,mS_,aB (pC aK),mT_,Rm P w K mg base A outer s H,mU_,.ins C dx [],mV_,fC tA_,mW_,aB (dX a8! eV dW_),mX_,aM aH aL aO_ aC q!,mY_,Mk X.K C f,mZ_,Cs (Am 1 Fw bi!),m0_,wl (fC X_),m1_,wl (fC i4_),m2_,Ab D_ mf_,m3_,An 2 (wl m3!),m4_,Bw bj_ ak! mw!,m5_,.str "numbers",m6_,Bw m7! ak! (Qd (Ab aI_ (Ab aI_ (Ab aI_ (Ab aI_ Af))))),m7_,.int c u,m8_,Bu (Am 4 Jm (Ab i_ gp_)),m9_,Bu (Am 4 Jm (Ab i_ se_))]
def z'n:String:=z [na!,An 6 aI_,nb!,Jg (Em na_),nc!,aS aN bF Y! aC,nd!,(i:Int)+(m:Int)*1,ne!,bk_<=sizeLine,nf!,An 2 (Am 1 Oh az!),ng!,.Slice lo hi none p2,nh!,HT.sIx xs.length xs.length hi - HT.sIx xs.length 0 lo,ni!,Dm.cons (j:=1) Dm.nil,nj!,λ_ _ _ _ _=>gI_,nk!,.Subscript a b pos,nl!,Ac (f2 Ai E_ (f2 Bn uH! ac!)) Ag,nm!,fI (n:=9) rfl,nn!,f2 Aw aI! uT!,no!,λx1 x2=>x1++x2,np!,n<=sizeLine,nq!,aE K! mX!,nr!,h.f _ _,ns!,h.p _ _,nt!,[cW!,il!],nu!,Dm.cons (j:=3) Dm.nil,nv!,(Str->Option Value)->Heap->Prop,nw!,d.params.defaults=[],nx!,.call fa! nx_,ny!,λr s'=>r=.ok (.ret gR!)/\OldK aj.heap s'.heap/\s'.os=aj.os/\AllBare s'.gens,nz!,.bool true,nA!,Ak k callerA,nB!,W.its.Nodup,nC!,W.fnOf x qual jz! bT_ bE! .none kV bn pm an af ct,nD!,bC (ne b _ e),nE!,bC (by simpa using hc),nF!,n∉W.its,nG!,(nG_).resolve_right q,nH!,k==gU!&&env.scope.kind==.function&&env.kindOf n==some .cell,nI!,if x=a then l else W.txt x,nJ!,∀b∈fp,Ji X J H2 b,nK!,Str.ofString "written",nL!,bW S! bI nH_ w! q!,nM!,Pp NL.length ix Z,nN!,(by rw[e1];exact hb),nO!,mup_ne p1,nP!,[F_,bE_,M!],nQ!,aQ (jI T) c! rfl cz_,nR!,(jH_).set p.toNat dU!,nS!,⟨r,f,p',g1,g2.keep (ar _ dk!) (ar _ ec!) (ar _ ec_),g3,g4,g5⟩,nT!,List (L2.Key×V),nU!,setT W i (cutT g bn_),nV!,.dct nU_ e6,nW!,ds.drop n,nX!,g++[.tup jK_],nY!,.dct (As k5 s c) e5,nZ!,λi d q _=>?_,n0!,Ya nl ix ρ,n1!,if b∈Ka own Z then none else G' b,n2!,some v6_,n3!,[F_,bp_,M!,eh!,some tx,some cv,n2!,some gJ!,qm],n4!,k G' H' s',n5!,⟨G,ρ,x,er,e1,λG1 H1 s1=>?_⟩,n6!,As k2 n (.fn r1),n7!,As k3 n (.fn r2),n8!,⟨G,ρ,.bl x,er,kY e1,sZ!⟩,n9!,s2 c hc]
def z'nn:String:=z [na_,f1 Bf (Ac E_ Ag),nb_,v+(n:Int),nc_,Ac (f2 Al ud! l!) Ag,nd_,(items.toList.drop (sIx items.size 0 lo)).take uf!,ne_,aR e5_ c! rfl (aD D! (aD nc! aK)) aq!,nf_,w2 Br D_ m1_,ng_,HT.sIx xs.length 0 lo,nh_,λb ob q=>HS _ q,ni_,λ_ _ _ _ _=>sZ (eZ (bM aA_ bZ aY_ Y! r!)),nj_,V->List V->Hp->VK->Prop,nk_,f2 Al ac! bh_,nl_,Aq (Da (Co uF! uF_)) (An 8 (wl (f2 Al bA! (Dl nl!)))) Bq,nm_,sliceBounds lo hi none n,nn_,ag.endLine==ab.line,no_,acc++its,np_,gh++bR!,nq_,aE al! aO,nr_,ks.map kV,ns_,wH (oT cf_ (kL (dB cc_ fF bk! bl! rfl))),nt_,cD (sc:=Ae Qq) rfl u!,nu_,∀x∈xs,∃k,Dc x=some k,nv_,World->Heap->Prop,nw_,K.p _ _,nx_,⟨bj!,[]⟩,ny_,λf vs=>PySem.call f vs,nz_,⟨t,rfl⟩,nA_,λ_ _ _=>False,nB_,(aK_).map b_,nC_,kM.mp hq,nD_,λm hm=>hm,nE_,λ_ _ _ q=>q,nF_,if x=n then[]else W.txt x,nG_,(cB_).mp O,nH_,bJ T.U9 T.V3 n!,nI_,setT W a l,nJ_,Inv X J Z H2 s2,nK_,Zj X scope cl,nL_,bR (dG T) c! n! aJ_,nM_,k1.length,nN_,.inr (.inr ⟨ak_,rfl⟩),nO_,mup_ne h3,nP_,Dc x=some kx,nQ_,hA.noOb oM2,nR_,aQ (eY T) c! rfl d0!,nS_,(q.1,q.2.1,q.2.2&&!decide (q.1∈cu)),nT_,λq hq y hy q' a9 e=>?_,nU_,As k6 s C!,nV_,setT W i vR!,nW_,V.ref p,nX_,some cj!,nY_,setT W i vY_,nZ_,(by rw[ql];simp),n0_,hw Z G H Q ρ d er e k,n1_,cs.zipIdx k0,n2_,[F_,bp_,M!,eh!,some tx,some cv,n2!,some gJ!,some cl_],n3_,(.tup jR!,.str ar_,true),n4_,hO.mono a!,n5_,As k1 n pl,n6_,fT fa ρ,n7_,.dct n7! e3,n8_,(by show 1<=1000;decide),n9_,mup_ne c3]
def z'o:String:=z [oa!,K3 c (oa_).1 (oa_).2.1 (oa_).2.2,ob!,ww c hc,oc!,gn c jW!,od!,f1 g fs,oe!,w1 _ v2,of!,(by rw[HX,HX];omega),og!,(by rw[z,hA.r1]),oh!,(by rw[z,g5]),oi!,w1 a2 h3,oj!,(by rw[dU xn];exact u1),ok!,.builtin "isinstance",ol!,na d hd,om!,⟨ho,rfl,k⟩,on!,.dct n5_ (Gp k1 n e1),oo!,gU.mp z,op!,[F_,M!,bE_,dq!],oq!,ak.mono x2.g,or!,x.sub.free hp,os!,ρ.set i nX_,ot!,(a==k||b==k),ou!,h5.mono x.g,ov!,.str "move",ow!,.lst its,ox!,A.deeper (envOfC qual bE! s.heap.objs.size hr af),oy!,some (.lst cx),oz!,ds.getD j .non,oA!,us'.toArray.size,oB!,letters.length,oC!,⟨cs.toArray⟩,oD!,.str letters,oE!,bj.lookup y,oF!,Sum.inr z,oG!,Addr->Option xf!,oH!,A'.handled,oI!,dH rfl rfl,oJ!,⟨_,dO_,rfl⟩,oK!,⟨_,rfl,?_⟩,oL!,.type "zip",oM!,W.num a,oN!,(λv y=>by cases y),oO!,λc o _ _ hc e _=>⟨o.slots,kp c o hc e⟩,oP!,λc ps e=>q3_,oQ!,I.hok c o e,oR!,λ_ e'=>e',oS!,.str k',oT!,.tup (.str k::a::r),oU!,bC (ne d _ q),oV!,f3 ρ=some c,oW!,⟨_,_,rfl,rfl,ek_⟩,oX!,A.deeper (envOfC x bE! s.heap.objs.size hr af),oY!,⟨ez,?_⟩,oZ!,(dt_).map b_,o0!,Nf iV_ yc_=some v,o1!,KM.mp hq,o2!,Ua rows,o3!,Vz rows,o4!,Str.ofString "redo"==Str.ofString "redo",o5!,.bl (Hk o.d).isSome,o6!,List L2.Key,o7!,λk=>.bl hv_,o8!,(∀o∈os,DG o.d),o9!,mup_ne hb]
def z'oo:String:=z [oa_,iy c hc,ob_,gn c hc,oc_,mup_ne h4,od_,w1 _ v1,oe_,w1 _ v3,of_,cB sub qb,og_,(by rw[z,g4]),oh_,λ_ j=>decide (0<j),oi_,Option Int,oj_,sub.seq q,ok_,⟨o,B,Y⟩,ol_,HR (λz:x=n=>hn fk_),om_,bs.all id,on_,Bd M a1 on!,oo_,List.range n,op_,.dct (As k1 i x) (Gp k1 i e1),oq_,GD X.K g bnd,or_,B.ok G0 F0,os_,.tup [.str a,.str b],ot_,.inl ⟨rfl,vs,Fn.of h3⟩,ou_,Ea ds.length j,ov_,.str "undo",ow_,⟨nh io,?_⟩,ox_,Oz Pz P w K mg base N qual bE! hr af A outer s H E,oy_,cx.length,oz_,es.getD j .non,oA_,us'.toArray,oB_,Fn X.K H a vs,oC_,λ_=>some true,oD_,ad==sysModules,oE_,[z_,au_,aF!,br!,bY!,cn!,cK!,kk!,fs_,some U_,none,none],oF_,Sum.inr z,oG_,some (Rb oth),oH_,[z_,au_,aF!,br!,bY!,cn!,cK!,kk!,fs_,some U_,some sg,none],oI_,[.tup [bF_,.int (1+m0%5)]],oJ_,IU _ rfl,oK_,DB s.heap l1 l2,oL_,HS _ oJ_,oM_,[aR!,aP_,p3!],oN_,λc o _ _ hc e _=>kp c o hc e,oO_,λc o hc e=>⟨o,kp c o hc e⟩,oP_,⟨a',b',c',e',IS _ hm⟩,oQ_,λd o' hd e'=>kp d o' (λhm=>?_) e',oR_,bC (ne c _ e),oS_,Cw (D.str k::r) 0=_,oT_,.tup (.str k::a::b::r),oU_,.tup (.str k::a::b::c::r),oV_,some (.inl (.inr "bin")),oW_,[.str k,a],oX_,Oz Pz P w K mg base N x bE! hr af A outer s H E,oY_,Vj n es,oZ_,(pA l c k).binds b,o0_,W.mg_of X G a,o1_,ns.map D.int,o2_,(k=="undo"||k=="redo"),o3_,Str.ofString "undo"==Str.ofString "undo",o4_,ops.map Op.key,o5_,(Ai o.v bg!).bind λx=>Ai x O!,o6_,Kn P w s.heap x u,o7_,[Q!,aj!,y],o8_,.dct acc ep,o9_,[bZ_,aj!,none]]
def z'p:String:=z [pa!,LY ho hd (HL (b9h hu q2 hk (HL (LY ho hd ?_)))),pb!,kget wd o.nm,pc!,(∀b,M b≠none->M' b=M b),pd!,(∀b,M b≠none->M' b=M b/\rl b=.oth),pe!,[(root,D.non),(binn,D.non)],pf!,.obj t.B4 fD!,pg!,[(root,D.fn r1),(binn,D.fn r2)],ph!,"numbers",pi!,An 2 Gv,pj!,As kvs d x,pk!,hH.trans B,pl!,List D->Mh->Prop,pm!,os.map Op.nm,pn!,Rn wd os,po!,some x.v,pp!,λy hy=>hp y d7!,pq!,Ck.laid x1.sub hp,pr!,.int y3_,ps!,⟨⟨o,q o z1,z2,z3⟩,z4⟩,pt!,some (.lst ps_),pu!,(b2_:Nat),pv!,((b2_+(m+1):Nat):Int),pw!,HL (OZ hT af!),px!,(Str.ofString "undo"==k||Str.ofString "redo"==k),py!,D.str.inj z,pz!,Ca 1 [1] _ _ _ _,pA!,α->Prop,pB!,.int ((k+1:Nat):Int),pC!,Al cM_ ay_=_,pD!,q.2.length,pE!,kget q.2.1 y,pF!,(by rw[hA.rt];simp),pG!,(cL_).trans x3 m2,pH!,[some ew!,M!],pI!,.lst ((ew_).take a),pJ!,Value×Value,pK!,.lst [p],pL!,.inr (s.noF z),pM!,Aa 2 ρ=some eo_,pN!,.nx ck_,pO!,(by rw[hA.rw_];simp),pP!,.obj C (Bo x y fs),pQ!,Lf M3 d y v,pR!,[A!,Q_,k4_,fN_,o4,o5,o6,o7,o8,o9],pS!,MI X own tg iter fi,pT!,[A!,Q_,fO!,bp_,y4,none,none,none,none,none],pU!,Yh P w K ps.length g,pV!,.lst ((ex_).take at_),pW!,(λi v=>∃e,es[i]?=some e/\v=e.key),pX!,Tj W n d W',pY!,a3r hL dv0 oE bi,pZ!,fb ρ=some z,p0!,Hk x.d=none,p1!,Bd N w A_,p2!,Bd p1! wt A_,p3!,.int (k:Nat),p4!,⟨Av!,?_⟩,p5!,List (Addr×D),p6!,cs.map C_,p7!,Option Nat->SortSt->Prop,p8!,HU.mp O,p9!,(by have:=hw.b0;omega)]
def z'pp:String:=z [pa_,λx=>?_,pb_,Option Nat,pc_,Pg .str a2! [],pd_,λq hq=>?_,pe_,HL (uP hu hk λtk=>HL yD_),pf_,(by rw[mup_same];simp),pg_,ai_<=sizeLine,ph_,Bo d8! kG! hD!,pi_,if c=o then _ else _,pj_,λ_ h=>h,pk_,(by rw[e];simp),pl_,hw Z G H Q ρ M R st e k,pm_,st.mr.ext x,pn_,.refl st.or.sub,po_,λy hy=>hd y d7!,pp_,MT X own c ft,pq_,⟨o,h⟩,pr_,[Q_,y3!,K_,some pr!],ps_,(bm!).map Op.v,pt_,.int pu!,pu_,((b2_+m:Nat):Int),pv_,[Q_,hI_,K_,z],pw_,⟨B,Y⟩,px_,Fn K H p ys\/Gc K H p ys,py_,compareOp .NotIn,pz_,⟨cO!,rfl,kx!,ep_⟩,pA_,rs.take k,pB_,.dct q.2.1 q.2.2,pC_,Mf M1 d,pD_,Mf M2 d,pE_,.dct (k3 (.lst (rows'.map Bg)) fI_ ev_) e,pF_,(by rw[Y];simp),pG_,aw wn zu_,pH_,((N!:Nat):Int),pI_,.lst [Bg bS!],pJ_,!decide (x=i),pK_,upd H s.heap.objs.size zz!,pL_,B.ok M0 G0 F0,pM_,.dct (As cr_ a k3!) e,pN_,sr.grow x m,pO_,.fn (qa a),pP_,.bl q.2.2,pQ_,((n:Nat):Int),pR_,Jt P w K own M0 G0 F0 M1 G1 H1 Z ρ,pS_,List.range aE!,pT_,some (.int (at_:Nat)),pU_,[A!,Q_,fO!,bp_,y4,hR!,pT_,y,some k7!,none],pV_,Pd s.heap d es ep,pW_,(by simp[c]),pX_,⟨rfl,k⟩,pY_,(by simpa using qe),pZ_,[Q!,A!,aj!,some x.v],p0_,.bool (lexLt ms ns),p1_,HT.lexLt ms ns,p2_,⟨0,?_⟩,p3_,IG.mp z,p4_,[none,none],p5_,cs.map λc=>.fn c.1,p6_,Addr×D->Prop,p7_,∀k h2,SB kd a0 h2->1<=k->k<=n->Up r y! k->Q (some k) h2,p8_,(by rw[IL,hw.len];rfl),p9_,(by have:=hw.b1;omega)]
def z'q:String:=z [qa!,(by have:=hw.b2;omega),qb!,ρ[i]?=some nX_,qc!,b6c em ed nd z rfl rfl rfl rfl rfl rfl rfl hb,qd!,Wi ft ρ M false,qe!,(qd_).map kf,qf!,.int yy,qg!,kl.length,qh!,J++[eA_],qi!,(by rw[hA.wt];simp),qj!,Ak k X.A.in1.in1,qk!,((fV_).length:Nat),ql!,λd q=>Ms d=some q,qm!,hA.nob hM1,qn!,seqObj "list" #[] e1,qo!,Paired cR_ ds us,qp!,(by rw[KN];omega),qq!,λh hh=>(by cases hh),qr!,(ct_).push cu!,qs!,⟨hl,?_⟩,qt!,(by show 4<100;decide),qu!,mup_ne λz=>ho dj_,qv!,JZ (by rw[JV,hi.1];omega),qw!,Paired.mapP ok.1 λ_ _ z=>z.1,qx!,(λq=>nomatch q),qy!,mixKind prog w,qz!,λv d=>Hz h3 v (Nn d).1 (Nn d).2,qA!,seqEpoch_at md rfl ?_,qB!,.tup (p.1.map kV),qC!,(show Fb X.prog X.w H s.heap d dA! from I.hok d _ e2),qD!,(∀f,Ol (fs.lookup f) (mA f)),qE!,Fb P w H h a o,qF!,∀b xs,H b=some bJ_->H' b=some bJ_,qG!,W.methodObj aj_ (.ref y),qH!,λx=>Dw x o.v,qI!,some (.int R_),qJ!,(o::l).map Op.v,qK!,s.W.eraseIdx j,qL!,e items[j]=true,qM!,some (.int (k+eE_)),qN!,λA R s=>s.heap.get? l=some {cls:=.type "list",dict:=none,data:=.seq items n,slots:=#[]}/\(∀y,y∈items->SeqAt.EqAt A.in1 s y x (e y))/\R (.ok (.ret .none)) {s with heap:=s.heap.update l (Obj.mapSeq λxs=>xs.eraseIdxIfInBounds j)},qO!,Around.under_plainId MH _,qP!,aT (d:=.int eE_) (by show some (D.int (0+_))=_;rw[Int.zero_add]),qQ!,(∀b,M0 b≠none->M b=M0 b),qR!,Array GenState,qS!,IV cU! I.ok.above,qT!,mup_ne (aW hb h0),qU!,[ap!,ax!,f6_,"ahead","follower"],qV!,[ap!,"names",ax!],qW!,[ap!,bf!,"parent","sibling","place"],qX!,[ap!,qW_,bf!,"behind","text","ahead","k","sign",ax!],qY!,(λ_ z=>nomatch z),qZ!,⟨_,au,ay,hL,r'⟩,q0!,[o_,Q!,aj!,K_,y4,y5],q1!,[f6!,"words","names",cu_,ax!],q2!,[f6!,ih_,"left_out",cu_,ax!],q3!,[aH!,f6!,f6_],q4!,hR M dn ep _ hd (OC _) hp fr,q5!,[aH!,lR_,"fresh",cu_,ax!,"same"],q6!,[aH!,"fresh","times",ax!,"time"],q7!,[aH!,cu_,"known"],q8!,[aH!,ax!,ih_],q9!,e1.trans e2.symm]
def z'qq:String:=z [qa_,cR! / 2,qb_,some (.lst [bF_,bF_,bF_]),qc_,(by rw[IW];rfl),qd_,av.map C_,qe_,Str.ofString "outline",qf_,Int->Addr,qg_,λb hb ho=>?_,qh_,(by rw[ht];simp),qi_,(by rw[hA.cl h hh];simp),qj_,ku.length,qk_,.int qk!,ql_,some (.inl iv!),qm_,∀H':Hp,H' a=none->Ji X J H' a,qn_,λ_=>a,qo_,Jo eB! ds,qp_,cO (f:=fC .non) (d:=.non) rfl,qq_,Jb g q.2,qr_,Wt.length,qs_,Ow a ta wa kl ca,qt_,λh hh=>?_,qu_,ItemsOf pW! acc ai_,qv_,λq e=>Cy K G q.1 e.key,qw_,[(.int o.h,.fn q)],qx_,.dct (h0!++qw_) bI_,qy_,(λb hb=>by rw[lp_];exact gi),qz_,L'.map (·.1.2),qA_,Jp fZ_ (Lz h3 p.1.1)<Jp fZ_ (Lz h3 q.1.1),qB_,(Xf λys Q H=>∀l,H l=none->Q jj_ jk!),qC_,Bd M wa (.lst (W'.map Op.v)),qE_,(show h.get? a=some _ from x),qF_,∀{hr:Addr} {af:Value} {A:Around} {outer:aw_} {s:Shared} {H:Hp} {E:XK},Ak k ox!->Vq (ox_).nox [] hx bT_ q,qG_,W.fnOf "__init__" qual jz! bT_ bE! .none kV bn pm an af ct,qH_,∀b u,b≠e->h.get? b=some u->h'.get? b=some u,qI_,.tbl (ps++pi),qJ_,some (.lst qJ!),qK_,s.W.eraseIdx j,qL_,List.range cS_,qM_,h.get? b=some o,qN_,.lst ((s.W.filter (BF s.S)).map Op.v),qO_,X.env.kindOf x=some .cell\/X.env.kindOf x=some .free,qP_,I.ok.noex b o e,qQ_,.Pass ⟨0,0,0,0⟩,qR_,[o_,aj!,br_,hB_,some fG_],qS_,Z[i]?=some cj_,qT_,λx O=>hk x bH_,qU_,[ap!,ax!,"ahead","follower"],qV_,λi x v e1 e2 e3=>?_,qW_,"operation_name",qX_,[ap!,bf!,"first","many","k",ax!],qY_,dn.map λo=>lQ!,qZ_,.dct (k9.map λo=>lQ!) ay,q0_,[f6!,"words",cu_],q1_,[o_,Q!,aj!,K_,hB_,K_],q2_,IA (by rw[IF];omega),q3_,⟨#[],by rw[e];simp⟩,q4_,λb u e=>?_,q5_,∀b u,s.heap.get? b=some u->h'.get? b=some u,q6_,[aH!,"many","found"],q7_,[aH!,lR_,"many",cu_],q8_,(∀o∈os,o∈U),q9_,(∀b,s.M b≠none->M' b=s.M b)]
def z'r:String:=z [ra!,storeName X.env x u,rb!,⟨ig!,ig!,I.base.free,to_,I.base.tups,I.base.frzs,I.base.tbls⟩,rc!,λo ho=>(by cases ho),rd!,[aW!,cX_,aW_,il!,cW!,"_law_items_here",a4!,im!,"_law_kinds","_law_kind","_law_sign","_law_names"],re!,[aW_,cX!,cv!,eI!],rf!,[aW_,"_law_last",cv!],rg!,"_law_parent_here",rh!,ms.map Op.nm,ri!,[cv_,a4!,im!,"_law_above"],rj!,[cv_,cv!,eI_,lX_,"_law_good",il_,eI!,ay!,"_law_new",lY!],rk!,ys.map λ_=>true,rl!,[aW!,cX_,aW_,cX!,ay!,eI!],rm!,[aW!,aW_,cv!,im!,ay!,in!],rn!,Bool->Hp->Prop,ro!,backTo pos l2_,rp!,ta Z H λx H1=>tb Z H1 λy H2=>R x y H2,rq!,∀v u s2 x y H2,Inv X J Z H2 s2->Bs x v->Bs y u->R x y H2->wpAny e_ X.A (f v u) Q X.xe s2,rr!,λv aj=>wpAny e_ X.A rr_ (λu al=>wpAny e_ X.A (f v u) Q X.xe al) X.xe aj,rs!,f1 Ec (Ac (Eo l! Ax c1_) Ag),rt!,eM aU_ h.hA.ob hF3,ru!,f2 Bv l! cm!,rv!,(by rw[I.ok.glob];exact I.mod.glob.keeps I.bk),rw!,op==CmpOp.NotIn,rx!,op==CmpOp.In,ry!,dO (ha J s Z H Q I h) λc s1 e=>?_,rz!,dO b6_ λc s1 ⟨H1,I1,q1⟩=>?_,rA!,[o_,io!,some O!,none],rB!,h J s Z H Q I hw,rC!,(by simpa using hs),rD!,([]++kl.flatMap (hs S)).map Op.v,rE!,(by rw[hp.length_eq];exact hS),rF!,Cr t M yy a ta wa Wt .non S kl ca,rG!,(∀b,M b≠none->b≠a->M' b=M b),rH!,aT (d:=.non) rfl,rI!,.Return none pos,rJ!,eM aU_ hob hF4,rK!,∀K:D->Mh->Prop,(∀M' o rl,OS t M' a o rl W->Q M'->K ag! M')->Dk t [V_] M K,rL!,(by rw[IT O];exact hK),rM!,.Subscript o i pos,rN!,ho J s Z H _ I h,rO!,dO c4_ λv s1 ⟨x,H1,I1,r1,q1⟩=>?_,rP!,Ba t.B4 "has" 2 gh_ i_ eN_,rQ!,Bw mf! v! aX!,rR!,Bw cy! v! iz_,rS!,Av t.B4 "numbers" i_,rT!,Bw rS! v! (Wy (Ab aI_ Af) (wl c3!)),rV!,(by rw[z];exact hb),rW!,IY (I.pin p hp).1,rX!,letOwnedTupleGo tg b8! u,rY!,Bu (Ba t.B5 "put_behind" 3 (Cv t) (w2 Br eP_ D_) (Ab eQ_ (Ab gk! Af))),rZ!,Bw rY_ eQ_ (wl bh_),r0!,(List.range 4).map λi=>D.int aG_,r1!,An 5 (wl (f2 Al (Eo x! Ax c1_) (Az gk_))),r2!,Aq (wT (Ba t.B5 "holds" 2 (Hw t) r1_ (Ab gk! Af))) (Bw (Av t.B4 "hidden" i_) gk! iD!) Bq,r3!,(by simpa using hu),r4!,.lst [.tup [q1,p]],r5!,hl J s Z H _ I h,r6!,wl (f2 Ai a7! v_),r7!,[o_,bZ_,A!,none],r8!,aT (d:=.str "texts") rfl,r9!,.Name "range" p]
def z'rr:String:=z [ra_,[aW_,cX!,cv!,ay!],rb_,λj y v' e1 e2 e3=>?_,rc_,(by simpa using I.len),rd_,[aW!,cX_,in!,aW_,"_law_counts","_law_times",ay!,cW!,eI!,eI_],re_,⟨u',r',?_⟩,rf_,z.sameBut hs (cne y c e),rg_,[cv_,a4!,rg!,rh_,il_,eI!,ay!],rh_,"_law_sibling",ri_,vc.mem_iff.mp ho,rj_,[aW_,cv_,"_law_undone_here",cv!],rk_,[eJ!,aW_,cv_,a4!],rl_,[aW!,cX_,eJ!,aW_,"_law_total",il_,eI!,"_law_size","_law_message",in!],rm_,Ds (Ee "bool" l!),rn_,.bl (decide (o∈s.W)),ro_,α->Shared->Prop,rp_,V->V->Hp->Prop,rq_,id! - ((s.S++[o]).length:Nat),rr_,eval b X.env,rs_,.Constant by_ j pos,rt_,.Constant .none j pos,ru_,eval c1! X.env,rv_,bootBuiltins x=some u,rx_,(s2.S.length:Nat),ry_,[dL_,.fn t.A8,.fn t.A9],rz_,⟨H1,I1,q1⟩,rA_,(l.filter λx=>p x||q x),rB_,dO (hc J s Z H _ I h) λd s1 ⟨H1,I1,q1⟩=>?_,rC_,backTo pos tD!,rD_,⟨ok.mod,ok.kind,ok.glob,ok.blt,ok.above,ok.inj,ok.has,ok.cab,ok.hd,ok.frames,ok.stk,ok.exf,ok.bs,ok.bsz,ok.noex,ok.exfs,ok.funs,ok.frf⟩,rE_,⟨I2.kIn,?_⟩,rF_,Rn (Pg .str (Ju S) []) (Ju S),rG_,Ph (El cw_ cw_ No),rH_,swapsWith e none pos.line X.env=pure false,rI_,(λ_ s'=>∃σ H',Inv X J σ H' s'/\Q σ H'),rJ_,.bl (decide (Ft W x)),rK_,Da (fT (f2 Ap x! cm!)),rL_,Ah (Tp (Pr 1 x!)) (An 2 (w2 Br c4! D_)),rM_,dS bK_ bh! (uZ h hk O),rN_,eval i X.env,rO_,f2 Eu u_ x!,rP_,An 4 (BC (wT rP!) D_ iz!),rQ_,Bu (Ba t.B5 "put_behind" 3 (Cv t) (w2 Br cy! aX!) gi!),rR_,Bw eP_ v! iz_,rS_,if false=true then(if true=true then q1 ρ M R else q2 ρ M R)else ft ρ M λb M1=>if b then q1 ρ M1 R else q2 ρ M1 R,rT_,.While c body [] pos,rU_,(∀y',R (.nx [o_,Q!,A!,y']) M),rV_,λz hz=>O z le!,rW_,(∀b∈fp,Ji X J H b),rX_,DU X J Z tg R,rY_,Av t.B4 "written" i_,rZ_,["enumerate","zip","dict_itemiterator","dict_reverseitemiterator","odict_iterator","itertools.zip_longest","itertools.pairwise"],r0_,f2 Al dO! O_,r1_,w2 Br eP_ v!,r2_,λb o hb e=>(sb.2 b hb).trans e,r3_,w2 Br rS! v!,r4_,Cs (Ba t.B4 "signs_of" 2 (Dr t) i_ az!),r5_,some (.inl (.inr "texts")),r6_,(((mo!).toNat:Nat):Int),r7_,Aq (Da (fT (f1 Bb b9!))) (Bw v! r6! (wl go!)) Bq,r8_,starEach [a] X.env=[dP_],r9_,.Call r9! [a] [] pos]
def z's:String:=z [sa!,fT (f1 Bb eS!),sb!,starEach ak_ X.env=[dP_,iH!],sc!,.Call r9! ak_ [] pos,sd!,Da (fT (f2 Aw bi_ (fC iI!))),se!,Da (fT (f2 Aw bi_ (fC mq_))),sf!,λb hb=>(iJ!).1,sg!,Da (fT (f2 Aw bi_ (fC dM_))),sh!,T.obj _ _ m7,si!,Da (fT (f2 Aw bi_ (fC iJ_))),sj!,I7.pin (b,o) si_,sk!,[z_,ca!,aT_,gr!,cN!,some fi!],sl!,wT (w2 iD_ aX! D_),sm!,c9q ha hb I h λv u s2 x y H2 I2 rx ry q=>ho J s2 Z H2 x y v u Q I2 rx ry q,sn!,.int bB! s.toks,so!,Fh t.B3 "outline" i_ cw_,sp!,intBits_le_64 B Y,sq!,Ay (wl (f1 Dq c3_)),sr!,binaryOp .Mult,ss!,Ab (Am 1 (Ga t) bi!) Af,st!,.int (z:Nat),su!,((dR!).take z).map Op.v,sv!,Aq (wT (w2 iG_ (Ba t.B3 "have" 2 eV_ i_ az!) aI_)) (Ay aI_) Bq,sw!,Ay (w2 Br (w2 Br (w2 Br dQ_ v!) (wl (Xv v_))) (wl T!)),sx!,x%3==0&&decide sw_,sy!,wl (f2 Ai H_ B_),sz!,wT (w2 iG_ sy! (Av t.B3 "ours" i_)),sA!,(dR!).take z++[rs[w]],sB!,f2 Eu E_ O_,sC!,compareOp .Is,sD!,compareOp .IsNot,sE!,f2 Ai O_ B_,sF!,λx y H Q=>r x y H Q\/r' x y H Q,sG!,wT (w2 (λ_=>Ko) aX! (Iw D_ gs_ (Am 2 (Ht t) (Ab i_ (Ab gs_ Af))))),sH!,Aq sG! Gz Bq,sI!,hc J s3 Z H3 _ I3 q3,sJ!,fT (f1 Rk (Ac mF_ Ag)),sK!,((i+z:Nat):Int),sL!,An 2 (Ca 1 [0] (Cs dR_) J! sM! i_),sM!,wT (Am 2 (Hc t) (Ab v! bi!)),sN!,Bu (Vt dR_ (wl bi_)),sO!,f2 Kd iO_ B_,sP!,(show False from e),sQ!,Aq (wT (Am 2 (Hc t) c8!)) (Ah (Bu (Am 2 (Kh t) c8!)) (Ay sP_)) Bq,sR!,.builtin "abs",sS!,(os.filter p).map Op.v,sT!,.int (if j<i then j else i),sU!,.builtin "ord",sV!,.int (x.cps.getD 0 0:Nat),sW!,Bu (Am 2 (Fk t) c8!),sX!,Am 2 (Ke t) dS!,sY!,.int ((fS_).length:Nat),sZ!,λv G1 H1 s1 r1=>?_,s0!,W.hasDictIn K C=true,s1!,Aq (Da (Cu s0_)) Gz Bq,s2!,Ba t.B4 "has" 2 gh_ mJ_ az!,s3!,c8_<=sizeLine,s4!,f2 Al u_ v_,s5!,Result->Shared->Prop,s6!,W.findIn K az_ "__init__"=some eX_,s7!,c1b (iX a6z rfl T.R8 rfl T.R4 cK b3l D!),s8!,fT (f2 Aw go! (fC gq_)),s9!,Az (Ac bi_ (Ac eT_ eS!))]
def z'ss:String:=z [sa_,[o_,bZ_,A!,y'],sb_,starEach [b] X.env=[iH!],sc_,Da (fT (f2 Aw bi_ (fC eT!))),sd_,.For tg iter body [] pos,se_,Ab b9_ (Ab iz! (Ab cw_ Af)),sf_,Da (fT (f2 Aw bi_ (fC gq_))),sg_,step x H5 y5,sh_,(((bO_).length:Nat):Int),si_,II _ (II _ (kN hb e)),sj_,Value->Sem Value,sk_,An 1 (Gu t.B4 1 (Im t) Af),sl_,Ab v! (Ab aX! (Ab (wl mt!) Af)),sm_,Aq sl! (Bu (Am 3 (Nl t) sl_)) Bq,sn_,⟨.int bB!,H,a5_,I_,q⟩,so_,[z_,ca!,aT_,some (.lst (([]:List Op).map Op.v)),none,none],sp_,((Z_).length:Nat),sq_,Sv λi j=>.int (i - j),sr_,some (i:Nat),ss_,Aq (wT (w2 (λ_=>Bv) mx_ cw_)) (Fh t.B3 "outline" i_ (Am 1 (Kf t) ss!)) Bq,st_,Ba t.B3 "have" 2 eV_ i_ (Ab (wl mA_) Af),su_,bE ns b a os rs br i c7_ (some iM_) y9,sv_,(jC e1 rfl).trans (pZ c_),sw_,(0:Int)<(i:Nat),sx_,compareOp .NotEq,sy_,f2 Ai H_ v_,sz_,compareOp .Gt,sA_,Aq (wT (Am 2 (Fy t) dS!)) (An 5 (w2 Br (w2 Br dQ_ sy!) (wl (f2 Df sy_ v_)))) (Aq sz! Gz (An 5 (Hi D_ aX! ak!))),sB_,Aq (Da (fT sB!)) Gz Bq,sC_,λx y H Q=>y=.non/\Q (.bl (decide (x=.non))) H,sD_,λx y H Q=>y=.non/\Q (.bl (!decide (x=.non))) H,sE_,An 4 (w2 Br (w2 Br v! ak!) (wl T!)),sF_,bE ns b a os rs br i y7 y8 y9,sG_,Bw D_ gs_ aX!,sH_,(i:Nat)+(z:Nat),sI_,Xc r r' ta tb tc,sJ_,f1 (Cc t) a4_,sK_,decide (aG_<sh_),sN_,⟨H,a5_,by rw[xG r];exact q⟩,sO_,Bu (Am 2 (Kh t) (Ab i_ (Ab (wl bi_) Af))),sP_,w2 Pa gs! (Am 1 (Ed t) bi!),sQ_,Sq (Am 2 (Fy t) c8!) (w2 bz! v! dR_),sR_,(λxs H Q=>∃i,xs=[b7!]/\Q (.int iP_) H),sS_,.builtin "min",sT_,(λxs H Q=>∃i j,xs=[b7!,dP!]/\Q sT! H),sU_,Aq (Fo (Da (Cu (fT x!))) (wT (w2 (λ_=>Jk) (w1 Uq (Ab dR_ Af)) (wl (fC (.int 8)))))) (Bu (Ts dR_ v!)) Bq,sV_,(λxs H Q=>∃x,xs=[.str x]/\eW_=1/\Q sV! H),sW_,.builtin "len",sX_,⟨.int k_,H,a5_,⟨_,by simp only[HX];rw[am]⟩,q⟩,sY_,(fS_).map Op.v,sZ_,W.plainGet K C name=true,s0_,fT (f1 Dy b9!),s1_,Value×List Value->Shared->Prop,s2_,some (.builtin "object.__setattr__"),s3_,Bk (f2 Ai l! (f2 Bn u_ dI_)),s4_,⟨hO,λo ho=>by have:=(hw o ho).1;omega,t_⟩,s5_,W.makesIn K C=true,s6_,iX b2x rfl T.R8 rfl T.R7 cK c1s D!,s7_,.tup [iU_,iU_],s8_,aR (lV T) c! rfl cb! aA!,s9_,Rp (Em (f1 Bf (Ac (f2 Ai a7! ab_) Ag))) J_ (Pr 1 s9!)]
def z't:String:=z [ta!,(show∃t,u=Value.int i t from r),tb!,gH (fH (iX nO rfl T.R8 rfl T.T2 cK qY D!)),tc!,f2 Ai x! tb_,td!,aR (iQ T) c! rfl mP! aA!,te!,Cn 6 (f1 Dv (Ac (f2 Al (Eo E_ (At v_) Ax) (Eo E_ Ax (At v_))) mQ!)),tf!,.ins C dx (Lg f y fs),tg!,Cn 7 (f1 Dv (Ac (f2 Al E_ (fC (.lst iW_))) (Ac (f1 Bi (Ac l! (Ac (f2 Al u_ T!) Ag))) Ag))),th!,Gg (fT (Ee "str" bh_)) (Cn 7 cm!) Ct,ti!,if g=f then some u else mA g,tj!,fC (.int 12),tk!,fS a9l a9t D! dM r!,tl!,Gg (fT (f2 Aw aZ! (fC eT!))) (Bk (Az (Ac aZ! (Ac (f1 Dv (Ac E_ mQ!)) (Ac bh_ Ag))))) Ct,tm!,.Attribute e f pos,tn!,Cn 10 (f1 Dv (Ac (f1 Mc b9!) (Ac (f1 Bi (Ac l! (Ac (f2 Al u_ c3!) Ag))) Ag))),to!,keywordEach [] X.env,tp!,.Call (.Attribute e m ag) args [] pos,tq!,[bF_,bF_,bF_,bF_],tr!,Gg (Co (fT (f2 Aw aZ! (fC dM_))) (fT (f2 Ap iX_ cm!))) (Bk (Az (Ac aZ! (Ac ac! (Ac iX_ (Ac (f2 Al v_ (f2 Bn tq_ (f2 Df gb_ (f2 Ai iX_ T!)))) Ag)))))) Ct,ts!,Gg (fT (f2 (Vl false) aZ! (fC (.tup [dM_,iJ_])))) (Bk (Az (Ac (fC iJ_) (Ac ac! (Ac (f2 Bn tq_ c3!) (Ac (f2 Df (f2 Bn (f2 Ci H_ (fC (.int 48))) (fC (.int 2000))) (fC (.int 1000))) Ag)))))) Ct,tt!,.Tuple es x1 pos,tu!,dO (h pos J s Z H _ I hq) λus s1 ⟨xs,H1,I1,r,z,q⟩=>⟨by rw[<-r.length];exact z,?_⟩,tv!,I1.laid (t':=s1.toks) (λb u e=>HS _ e) x_ ?_,tw!,T.W6 _ rfl rfl rfl rfl,tx!,Cn 7 (f1 Bi (Ac l! (Ac tw_ Ag))),ty!,Vf 4 bA! (f2 Al (Me 4 bA!) v_),tz!,λv H2=>v=.non/\Q f1! H2,tA!,Cn 9 (Ii (f1 Kq (Ac l! (Ac (f2 Al tw_ v_) (Ac O_ (Ac gx! Ag)))))),tB!,bR (gD T) c! n! (aE gA_ aO),tC!,dO mp! λus s1 ⟨vs,H1,I1,r,q⟩=>⟨I1.kIn,?_⟩,tD!,starEach aO! X.env,tE!,An 3 (wl (Ii ge!)),tF!,fT (f2 Kd O_ B_),tG!,fT (f2 BH (Az (Ac (f2 Ai (Me 1 i0_) T!) (Ac (f2 Ai (Me 1 i0_) B_) Ag))) (Az (Ac dO! (Ac bi_ Ag)))),tH!,(Value.ref ae_::e1!),tI!,.tup [b8_,mn!],tJ!,wT (w2 bz! (wl go!) tI_),tK!,Bw v! r6! (wl (f2 Aw go! kC!)),tL!,(∀v,(x,v)∉binds),tM!,fT (f2 Jk E_ gD_),tN!,f2 Ai (f2 Ai H_ E_) v_,tO!,(by simpa using Y),tP!,fT (f2 Ap O_ cm!),tQ!,cellsFrom ae_ scope.names [],tR!,fT (f2 Aw tP_ tQ_),tS!,Da (Co tP! tR!),tT!,An 5 (wl (f2 Al ac! v_)),tU!,Ac (Az (Ac u_ b9!)) Ag,tV!,f2 Al (Eo H_ Ax e4!) (Dl tU!),tW!,An 3 (Ca 1 [1] m0! J! (Da (fT i4!)) (wl dJ!)),tX!,Aq (Da (Cu (λρ=>((O_) ρ).bind Wl))) db_ Bq,tY!,W.fnOf name qual params body scope dV kV bn pm an af ct,tZ!,wl (fC (.tup [gc_,iq_])),t0!,∀vs H Q E,sp vs H Q E->bB_=T_,t1!,Ab i_ (Ab v! m2_),t2!,Ac mA_ (Ac mz! Ag),t3!,mG I hg hm hv ?_ hn be,t4!,Ab i_ (Ab ak! (Ab (wl (Mo (fT H_) eT_ ir!)) (Ab gp! Af))),t5!,Bw t4_ gp! (wl a7!),t6!,f2 Aw t5_ dO!,t7!,Aq (Da (fT t6!)) (An 6 (wl (f2 Al bh_ v_))) Bq,t8!,if v<0 then max nb_ 0 else min v (n:Int),t9!,((sIx n n hi:Nat):Int)]
def z'tt:String:=z [ta_,(show∃t,u=Value.str x t from r),tb_,f2 Bn (f2 Ci u_ (f2 Al v_ (f2 Eh ab_ l!))) (fC (.int 41)),tc_,Cn 4 (f1 Bi (Ac l! c3_)),td_,Cn 5 (f1 Md b9!),te_,aR (iP T) c! rfl (aD (dX D! eV dW_) aK) aA!,tf_,(by rw[e];exact iX!),tg_,aR (iP T) c! rfl cb! aA!,th_,Cn 8 (fC (.lst [eT!,eT!,eT!,iI!,iI!,gq_,gq_,dM_,iJ_,b8_,mn!,mq_])),ti_,fS aA_ bZ D! aU r!,tj_,Cn 9 (f2 Ai bA! (f2 Bn H_ tj!)),tk_,λb u q=>HS _ q,tl_,Gg (fT (f2 Aw aZ! (fC iI!))) (Bk (Az (Ac aZ! (Ac ac! (Ac (f1 Dv (Ac E_ (Ac (f1 Bi (Ac l! (Ac (f2 Al u_ ab_) Ag))) Ag))) (Ac bh_ Ag)))))) Ct,tm_,Gg (fT (f2 Aw aZ! (fC mq_))) (Bk (Az (Ac aZ! mh!))) Ct,tn_,backTo pos (starEach args X.env),to_,λb o e O=>?_,tp_,Gg (fT (f2 Aw aZ! (fC gq_))) (Bk (Az (Ac aZ! (Ac ac! (Ac iX_ (Ac (f1 Og (Ac (f1 Bi (Ac l! (Ac (f2 Al u_ gx!) Ag))) eS!)) Ag)))))) Ct,tq_,f2 Ci H_ tj!,tr_,aG (gE T.U8 T.W5 n! cz!),ts_,["check","part"],tt_,(show(ts_:List Str).Nodup by decide+kernel),tu_,Cn 11 (f2 Al (Fa 1 [] (Ey x!) J! a6! (Az gv!)) (Dl (Ac (Az (Ac B_ (Ac (f2 Al v_ (f2 Bn H_ gx!)) Ag))) Ag))),tv_,Bk (Az (Ac aZ! (Ac (f1 Dv (Ac (Aa 11) mQ!)) Ag))),tw_,f2 Al u_ (f2 Eh (fC (.int 7)) ac!),tx_,Cn 8 (f2 Bn bh_ ab_),ty_,upd H1 dx ia_,tz_,Vf 5 bA! (f2 Al (f2 Al (Me 5 bA!) v_) (f2 Bn (f2 Ci bh_ ab_) ab_)),tA_,.lst [O!,(.int 5),(.int 15)],tB_,Pr 3 (Az (Ac (f2 Ai mV_ bA!) (Ac (Me 4 bA!) (Ac (Me 5 bA!) (Ac aZ! Ag))))),tC_,.Attribute o m ag,tE_,starEach [] X.env,tF_,.cons rfl .nil,tG_,I.hok.fresh (OC _),tH_,Tp (Ro 1 O_ x!),tI_,wl (fC tI!),tJ_,X.mg x=some az_,tK_,.Call (.Name x p) [] [] pos,tL_,f2 Eu aI! u_,tM_,(by simpa using B),tN_,fT (f2 Eu tN! x!),tO_,An 5 (wl (f2 Al E_ v_)),tP_,f2 Ai H_ ac!,tQ_,Az (Ac O_ b9!),tR_,Oz CX P w K mg base N qual scope f cd A outer s H E,tS_,(show b∈tT_ from z),tT_,([]:List Addr),tU_,λb z=>absurd z (rh b),tV_,Eo H_ e4! Ax,tW_,x.above y c (LL h),tX_,Option Value,tY_,bQ bX dN rfl T.R9 dD d0_,tZ_,pX (i:=2) (NL:=bL!) (NF:=bw_) (ix:=[0]) dZ.nd rfl a_ rfl c_ u! (cD (sc:=Ae Es) rfl u!) m1! c_ rfl (eR e2_) (λ_ _ _ _ _=>bH (i:=0) (show([cu_,aH!]:List Str).Nodup by decide+kernel) rfl a_) aB! (λ_ _ _ _ _=>sZ (fP (aQ (oQ T) c! rfl (aE w! cz_)))) i5!,t0_,Lj (wT (Am 3 Mm (Ab i_ gj!))),t1_,Bu (Am 4 Go t1!),t2_,An 4 (Sq gG! (wl (f2 Aw eT_ gd!))),t3_,dO mp! λus s1 ⟨vs,H1,I1,r1,q1⟩=>hc J s1 Z H1 vs us Q I1 r1 q1,t4_,w2 Br m7! b9_,t5_,f2 Ai (f2 Ai E_ bh_) B_,t6_,if v<0 then(nb_).toNat else min v.toNat n,t7_,aZ (bS (aM aH aL D! (aS eG eH Y! gv_) q!)),t8_,f1 Bf (Ac a7! Ag),t9_,Ac (f2 Al x! (Az a4_)) (Ac (f2 Ai m3! l!) (Ac (fC C!) Ag))]
def z'u:String:=z [ua!,An 8 (Ca 1 [2,3] (Jg (Em t8_)) J! gm_ (wl (Az t9_))),ub!,f2 Al (Eo E_ Ax dc!) bA!,uc!,Bw bj_ b9_ (wl (f2 Al ub! ub_)),ud!,f2 Ai gH! T!,ue!,uV (bQ bX dN rfl T.R9 dD jb!),uf!,sIx items.size items.size hi - sIx items.size 0 lo,ug!,An 1 (Ph uf_),uh!,An 2 (Am 1 Ml bi!),ui!,Ac sE! (Ac (f2 Ai O_ v_) Ag),uj!,uj_==0&&(1:Int)==1&&uf!==bk_,uk!,Lj (wT (Iw D_ (wl (Az ui!)) m0_)),ul!,Bu (Am 2 Wf gi!),um!,f2 Aw dJ! u_,un!,Cs (w2 Br bj_ v!),uo!,wT (w2 Sj (Am 2 (Je t) dS!) (Am 2 Hy m2_)),up!,s3.heap.objs.size,uq!,Ca 1 [3] (Cs (w2 Br D_ gC_)) J! (Da (fT i4!)) i_,ur!,JD (tU xs lo hi) hz,us!,(r.drop ng_).take nh!,ut!,Ay (w2 (λ_=>BG false) (Am 2 gH_ (Ab i_ (Ab (wl (fC s7_)) Af))) m0_),uu!,dC (aD aY_ mP!),uv!,Ii (f1 Bf eS!),uw!,An 5 (wl (f2 Bn (f1 Bi (Ac l! (Ac (f2 Al u_ H_) Ag))) (f2 Al uv_ v_))),ux!,f2 Ai x! H_,uy!,call e5! (v::us),uz!,f2 Al u_ (fC (.int 20)),uA!,⟨z,H,I,ak,q⟩,uB!,An 7 (wl (f2 Al v_ uz_)),uC!,An 8 (wl (Eo E_ dc! (At nk_))),uD!,Dm.cons (j:=2) Dm.nil,uE!,(by rw[HX]<;>omega),uF!,fT (f2 Aw uE_ B_),uG!,fC (.int 31),uH!,f1 Bi (Ac l! (Ac (f2 Al u_ uG!) Ag)),uI!,fT (f1 Of (Ac aZ! Ag)),uJ!,Aq (Da (Cu uI!)) (Ay (wl (Xv v_))) Bq,uK!,An 4 (wl (f2 Al H_ aZ!)),uL!,aS eG eH aO_ aC,uM!,aD (aR gK! c! rfl (aD ar! gK_) aq!) (aD dc_ aK),uO!,An 1 (wl (f1 Ki uN_)),uP!,An 3 (Gu t.B3 2 (Iu t) (Ab (wl c3!) Af)),uQ!,if b then 1 else 0,uR!,Ab i_ (Ab (wl (fC (.int 25))) (Ab ak! az!)),uS!,aS nG nH aO_ aC,uT!,f2 Ai mV_ u_,uU!,Ac (Fa 1 [4] dS_ J! (fT nn!) l!) Ag,uV!,Ab (wl (f2 Ai mV_ H_)) Af,uW!,λh' c' kp e=>fin its r' hz h' c' kp e,uX!,(by simp only[HX]<;>omega),uY!,(λ_ e=>nomatch e),uZ!,⟨o,e,ex.2.1⟩,u0!,backTo ab l2_,u1!,List.replicate k its,u2!,IE (f:=b_) z,u3!,Obj.mapSeq f,u4!,bM bD! wE Y! aC! r!,u5!,⟨h.no,h.nd⟩,u6!,⟨h.nd,G_,λa ha b hb=>by simp at hb;subst hb;exact λz=>h.no jn_⟩,u7!,λa ha b hb=>?_,u8!,bd.2.2 a ha b hb,u9!,[aW!,ay!,cW!]]
def z'uu:String:=z [ua_,s.heap.IsSliceOf sl vl vu .none,ub_,Eo E_ dc! Ax,uc_,Eo gH! Ax c1_,ud_,An 9 (Ca 1 [2] (Jg (Em a7!)) J! gm_ (wl (f2 Al uc_ (Az nc_)))),ue_,Bw bj_ b9_ (Ca 1 [9] (Jg (Ey E_)) J! gm_ (Tr (Ab (wl aI!) (Ab (wl dJ!) (Ab (Jw (wl dJ_) (w2 iD_ (wl aI!) v!)) Af))))),uf_,El gC_ mw! (El m1_ Gv (El i6_ Gv No)),ug_,Str.ofString "__getitem__",uh_,wT (w2 iD_ (wl (f2 Ai mt! B_)) tI_),ui_,bQ bX dN rfl T.R9 dD (aD ar! aK),uj_,((sIx items.size 0 lo:Nat):Int),uk_,aS eG eH (aR e5_ c! rfl (aD D! (aD (aS aN bF nc! aK!) aK)) aq!) aC,ul_,aS aN bF aK! dc_,um_,Option Int->Hp->Prop,un_,Cs (w2 Pa (wl (fC (.lst [gc_,iq_]))) (w1 Rf (Ab nf_ Af))),uo_,Wk (wT (w2 (λ_=>BG true) (Am 2 gH_ dS!) iD!)) uo!,up_,Aq (wT (w2 Sj (Am 2 (Te t) dS!) (Am 2 Hj m2_))) db_ Bq,uq_,Aq (wT (w2 Sj (Xa (Ab (Tr (Ab ak! (Ab (Am 2 (Oe t) dS!) Af))) Af)) uq!)) db_ Bq,ur_,Ca 1 [0,3] (Jg (Em c3!)) J! gm_ (Am 3 (Mb t) (Ab v! (Ab D_ bi!))),us_,Aq (wT (w2 Sj ur_ (w2 Br (w2 Br D_ i6_) ak!))) db_ Bq,ut_,λ_ _ _ _ _=>bH (i:=0) (show(d2_:List Str).Nodup by decide+kernel) rfl a_,uu_,λ_ _ _ _ _=>uu!,uv_,f1 Xs (Ac uv! (Ac gx! Ag)),uw_,f2 Df uv! E_,ux_,Tp (Ro 3 uw_ ux!),uy_,f2 Jk ac! na_,uz_,f2 Bn (f1 Bi (Ac l! (Ac (f2 Al uz! ac!) Ag))) T!,uA_,(by rw[hj];simpa using ew),uB_,slot_list_getitem.lookup,uC_,λr s'=>r=w/\EP X J Z Q r s',uD_,f2 Al u_ (fC (.int 30)),uE_,f2 Bn (f1 Bi (Ac l! (Ac (f2 Al uD_ ac!) Ag))) ab_,uF_,fT (f2 Kd ac! B_),uG_,(·.setIfInBounds j u),uH_,An 9 (Am 2 (Tf t) (Ab D_ (Ab eQ_ Af))),uI_,KG _ _ (HY hb),uJ_,upd H p (.lst (xs.set j v)),uK_,An 6 (wl nk_),uL_,(by rw[hk];exact⟨_,I',q⟩),uM_,Ac l! (Ac (fC l1_) Ag),uN_,Ac l! (Ac B_ (Ac (f2 Bn (f1 Bi uM_) (fC l1!)) Ag)),uO_,An 2 (Gu t.B3 2 (Iu t) (Ab (wl ab_) Af)),uP_,if a then 1 else 0,uQ_,Ab i_ (Ab (wl gx!) gj!),uR_,Aq (Wk (wT (w2 Sj (Am 4 gL_ uQ_) (wl ge!))) (wT (w2 Sj (Am 4 gL_ uR!) (wl ge!)))) db_ Bq,uS_,λw hw=>wL rx fx r fs w i9_,uT_,(show its.toArray.any gM!=its.any gM! by simp),uU_,An 5 (wl (f1 Bf uU!)),uV_,aS eG eH uS! aC,uW_,Aq (Wk (wT (w2 Sj (Ba t.B3 "have" 2 eV_ D_ uV!) gk!)) (wT (w2 Sj (Ba t.B3 "have" 2 eV_ ak! uV!) gk!))) db_ Bq,uX_,Ay (Jw (Am 2 (Kj t) gj!) (Am 2 (Kj t) (Ab ak! az!))),uY_,⟨⟨o,e,ex.1⟩,λa e2=>?_⟩,uZ_,bQ bX dN rfl T.R9 dD (aD aO_ aK),u0_,List.replicate k xs,u1_,IE (f:=b_) w,u2_,[aH!,bf!,ih_],u3_,λ_ _ q=>HS _ q,u4_,.cons ru .nil,u5_,.lst (xs++zs),u6_,gu.toArray.size,u7_,(by rw[P];simp[hm]),u8_,λz=>gb.2.2 _ z _ d_ rfl,u9_,As jq! a0 b0]
def z'v:String:=z [va!,As jq_ b0 a0,vb!,aE bk! (aE bl_ (aE cz! aO)),vc!,bd.2.2 _ this _ d_,vd!,aY (i:=5) iL.nd rfl a_ vc_,ve!,starEach [e] X.env,vf!,ns.map WData.int,vg!,(∀b,b≠f->b≠p->M' b=M b),vh!,⟨?_,⟨_,_,_,_,(mup_ne h.ne).trans mup_same,mup_same,K'⟩,h.ne⟩,vi!,aM aH aL (sR (i:=1) c_ vh_ q!) aC q!,vj!,eR (aQ (sY T) c! rfl cz_),vk!,(by rw[IF];exact hl),vl!,∀(w:World) (h:Heap),YP w h->(bS_).In h,vm!,Ye K x qual st f fd,vn!,∀(kV bn pm:Value) (an:a8_) (af ct:Value) (us:i!),ao!=T_->bindArgs nC! db!=pure da!,vo!,K.lookup f=some ⟨oc,od,.func nC!,du⟩,vp!,qB w_ (iG cz! cz! wI),vq!,.inl (.inr ⟨o,e _ _ h⟩),vr!,⟨_,h.mem.mpr ao_,rfl⟩,vs!,oV (gJ (aR (lX T) c! rfl cb! aA!)),vt!,ForInStep.yield ((name,a)::r),vu!,(by simpa using hk),vv!,λp hp=>hn p jC_,vw!,if x=n then[.int 0,.int 0,.int 0,.int 0]else W.num x,vx!,bR (gC T) c! n! gV!,vy!,X.N[j]?=some x,vz!,∀b∈fp,b<P!,vB!,ForInStep.yield ok,vC!,.inr (.inr ⟨eE!,rfl⟩),vD!,[⟨tg,iter,c7,0⟩],vE!,mup_ne (HY p2),vF!,(λv z=>by cases z),vG!,λ_ _=>False,vH!,λz=>r1 (q.mpr z),vI!,bJ T.U8 T.W5 n!,vJ!,∀cl C al bc fp,Py ch_ c7 tt,vK!,Zp NL.length ix wi g tt te,vL!,(by rw[z];exact jw),vM!,⟨JK (IV hb hC),JK (IV hb hD)⟩,vN!,.inr (JD I2.sz hC),vO!,λx c h=>(vN_).1,vP!,λ_ _ _ _ _=>bH (i:=0) (show([ax!,ap!]:List Str).Nodup by decide+kernel) rfl a_,vQ!,∀a kvs,Rd H a dT_->Rd H' a dT_,vR!,cutT [s] bn_,vS!,λ_ _ q=>e.seq q,vT!,((jK!).map b_)=_,vU!,bH (i:=3) mY.nd rfl bc_,vV!,(by rw[show h1+(js.length+1)=h1+1+js.length by omega];simpa using h'),vW!,cD (sc:=Ae Mi) rfl u!,vX!,oV (fK rfl T.S9 aC),vY!,⟨v,B,Y.mono x.g⟩,vZ!,aD aC (aD aC jb_),v0!,(by rw[z];exact hA.r5),v1!,sR (i:=4) c_ cA_ q!,v2!,ar _ fj! fj! fj!,v3!,AA X.K own f,v4!,∀Z G H Q ρ d,OR X.K own G H Z ρ->ft ρ=some d->(∀G' H',Ck G H G' H'->Q d H')->t Z H Q,v5!,[aR!,aP_,.int (k':Nat)],v6!,⟨_,_,_,rfl⟩,v7!,aE (aB (aM aH aL jf_ aO_ q!)) aO,v8!,setT W i (U++n3_::v),v9!,b8e ho ha.ok hb.ok]
def z'vv:String:=z [va_,gj.2.2 _ this _ d_,vb_,Heap.SameBut a s.heap h',vc_,bW S! bI bl! bk! q!,vd_,[cW!,il!,lU_],ve_,starEach [e,f] X.env,vf_,pre_splitW vq,vg_,(by rw[kj];simp),vh_,aS oP oS a8! aC,vi_,(u++n::v++bR!),vj_,[.int a,fa_,.int c],vk_,Params->W.Frag,vl_,(∀(s:Shared) (u:Value),BindsTo s fd jx! [(x,u)]),vm_,u'++[dg!]++v,vn_,IE (f:=b_) this,vo_,(by rw[<-z];exact hq),vp_,.inl (.inl (e _ _ h)),vq_,⟨o.slots,e⟩,vr_,fS aA_ bZ mU! aU r!,vs_,Str×NameKind,vt_,ForInStep (List fc!),vu_,(if(k==gU!)=true then _ else _)=_,vv_,aB (fS nB nJ Y! dM r!),vw_,pG cells r _ x h,vx_,bJ T.U9 T.V6 n!,vy_,Str.ofString "hidden",vz_,.obj t.B4 Y_,vA_,w.sg x O q hq,vB_,bW S! bI jE! w! q!,vC_,bW S! bI vx_ w! q!,vD_,([]:List Value),vE_,([]:List (Str×Value)),vF_,∀a p,(a,p)∈W.rows->rk p<rk a,vG_,(∀p,bb!∉W.rows),vH_,I8.pin (b,o) si_,vI_,X.env.kindOf y.1=some .cell\/X.env.kindOf y.1=some .free,vJ_,∀cl C al bc fp,PE ch_ dw te,vK_,dO (ax J s Z H _ I h) λv s1 B=>dO B λvk s2 Y=>?_,vL_,⟨ar b eb_,L⟩,vM_,λb o hb e=>(bx.2 b hb).trans e,vN_,f7 c (p6 x c h),vO_,λx c h=>(vN_).2,vP_,∀a vs,Fn K H a vs->Fn K H' a vs,vQ_,Ao.map ht hl hd xs vs r,vR_,λ_ _ q=>cB e q,vS_,λ_ _ q=>b1n e q,vT_,⟨a,vs,rfl,h,r⟩,vU_,⟨_,_,_,_,_,_,_,_,_,_,_,_,q1⟩,vV_,r.mono (iM h),vW_,(ee_).map λk=>.tup g4_,vX_,(ee_).map λk=>z+an_,vY_,(U++(s,c,true)::v),vZ_,aS aN bF Y! (aS rW rY aC aK!),v0_,Bd M1 a5 nY!,v1_,sR (i:=5) c_ cA_ q!,v2_,⟨r,f,p,g1,?_,g3,g4,g5⟩,v3_,⟨λJ s Z H Q I ⟨G,ρ,d,er,e,k⟩=>h J s Z H Q I n0_⟩,v4_,b2q (wD T) c! rfl nq_,v5_,setT W i (U++(n1_).map eg_++v),v6_,.int (k0:Nat),v7_,(D.tup jR!,D.str ar_,true),v8_,(by rw[hl,IW];exact IS _ z),v9_,b2f ho ha.ok hb.ok hm]
def z'w:String:=z [wa!,b8j L ha.ok hb.ok hs,wb!,λx H'=>∃k,x=.bl k/\Q k H',wc!,⟨d,rfl,n4!⟩,wd!,⟨b7f h.ok⟩,we!,⟨G1,ρ,d,dm!,e,λG2 H2 s2=>k G2 H2 dn_⟩,wf!,⟨b8f h.ok⟩,wg!,λv G2 H2 s2 r2=>k v G2 H2 dn_ r2,wh!,k _ G1 H1 s1 Au.bl,wi!,Bd ej! a4 ej_,wj!,dY h.ok hs.ok bv,wk!,(by rw[<-aJ r1];exact gF hl),wl!,s1.trans (Ck.laid s1.sub hp),wm!,s1.sub.free hp,wn!,if c=r1 then _ else _,wo!,Yp X.K ps.length g,wp!,∀ρ ds,fs ρ=some ds->f_=T_,wq!,(by rw[IL];omega),wr!,k _ G H aR_ Au.str,ws!,∀i j H,Au K H bB! (gv i j),wt!,λ_ j=>decide (0<j)&&decide (j<1073741824),wu!,.bl (Ru i j),wv!,Ad->Option oi_,ww!,s4.trans jZ!,wx!,mup_ne (HY (nq a4 (gc a4 (s3 a4 A4)))),wy!,(λxs H Q=>∃x n,xs=[x]/\AW K x H n/\Q dU! H),wz!,(λ(r:Fl) (M':Mh)=>match r with|.rt d=>R d M'|.nx _=>R .non M'),wA!,(∀d,ds[i]?=some d->ac.go i H'/\∀x gw,ac.yld i H' x gw->∃se,Ck G' H' se gw/\Au K se d x),wB!,St->Hp->Prop,wC!,⟨el!,λhi=>by rw[IF,MM]at hi;exact PH hi.symm⟩,wD!,AS K 2 (Us eO! (Us (Oj j) AT)),wE!,kA (rows:=W.rows) (i:=i),wF!,((oq!).mono x3.g).mono x4.g,wG!,λx0 x1 x2 x3 x4=>(he x0 x1 x2 x3 x4).ok,wH!,λac G1 H1 x1 f8=>?_,wI!,aw r' bG_ bG_ bG_ bG_ bG_,wJ!,swapsWith e (some do_) pos.line X.env=pure false,wK!,a9j hN hi O h.ok hs hf,wL!,cs.map λ_=>D.bl true,wM!,cs.map λ_=>true,wN!,s.or.sub.trans yp,wO!,λz=>absurd z.symm cp,wP!,.nx (ρ.set i (some (.lst (ds++[d])))),wQ!,(n::r).map D.int,wR!,dY h.ok gA bv,wS!,DE X own ix fx,wT!,oO hN yq hd b6,wU!,(x.trans x2).h _ _ h3,wV!,λi hi p e=>?_,wW!,λy=>NameG y,wX!,(if ka!<=big then Option.map D.lst (Ej _ _ _ dq_ ops)else none)=_,wY!,Ye K x qual st hr fd,wZ!,hb af A outer s H E L,w0!,vS I xs ys vs n n' rr bz,w1!,some (.tup [.int h',aP_,.int tm,.tup wU_]),w2!,⟨[],rfl,rfl⟩,w3!,(by rw[HX,HX,<-h3,<-h4,<-B,<-Y];simpa using hl),w4!,[none,some dU!,some oD!],w5!,letters.cps.toList.length,w6!,Cd g g' fa fb fc,w7!,[some dU!,br!,some oD!],w8!,(r2.mono s3.g).mono s4.g,w9!,sSeq Zd (sSeq dq14 dq15)]
def z'ww:String:=z [wa_,b1w ho ha.ok hb.ok hm,wb_,if i∈W.its then setT W i (wrT b ei! bn_)else W,wc_,⟨b1v h.ok⟩,wd_,b7g ha.ok hb.ok,we_,c5x ha.ok hb.ok,wf_,b8l ha.ok hb.ok,wg_,k _ G1 H1 s1 Au.bl,wh_,c6a ha.ok hb.ok,wi_,a5t hc.ok ha.ok hb.ok,wj_,K5 c (ob_).1 (ob_).2.1 (ob_).2.2,wk_,mup_ne (nq c (gc c jW!)),wl_,K5 c (oc!).1 (oc!).2.1 (oc!).2.2,wm_,mup_ne (nq c hc),wn_,vV hc hg hm hv ha.ok hn be he az,wo_,(aO!).length=T_,wp_,∀ρ ds,fs ρ=some ds->f_=n,wq_,(by rw[JY];decide),wr_,c≠r1/\c≠f1/\c≠p1,ws_,k _ G H aR_ (hg _ _ G),wt_,λi j=>decide (0<=j)&&decide (j<=1000000)&&decide (gr_<2 ^ 64),wu_,(by rw[y];exact z),wv_,hg.chl_same w.rnd,ww_,c1 r' am_ am_ am_ am_ am_ am_ am_,wx_,λa z=>(by subst z;cases e2),wy_,Ab j0_ (Ab (wl f2) Af),wz_,.builtin "all",wA_,i=f_->ac.stop i H',wB_,Bd M5 a3 (.dct n7! (Gp k3 n e3)),wC_,[F_,ek!,some a,eh!,none],wD_,jY w.rnd dz z,wE_,⟨cS (by rw[<-aJ ak];omega),?_⟩,wF_,AA X.K [] ft,wG_,b2e cg ce j3 ie cap calm ax.ok hg hi wG! hs,wH_,DJ X.K G0 F0 own hx f,wI_,DS X own bh st q1,wJ_,.Assign [cH!] e pos,wK_,.If c b1 b2 pos,wL_,⟨G',ρ,r,er.grow x',e2,k⟩,wM_,(j5_).any λd=>Dw d aE_,wN_,λj d q n=>?_,wO_,(λb u e=>by rw[bC (hG e)];exact s.or.sub b u e),wP_,[e].length+(d3_).length+e7!<30,wQ_,.Call (.Attribute bq_ "append" ag) [e] [] ab,wR_,ρ.set i (some (.lst (ds.set k d))),wS_,.Subscript bq_ ix p2,wT_,λiv G2 H2 x2 r2=>?_,wU_,[j8_,a,b,dn!],wV_,Ck G0 F0 G1 H1,wW_,⟨_,_,rfl,b1,b2,b3,b4⟩,wX_,.lst (.str "root"::ys),wY_,F.ok S (λvs H Q E h=>h.1) (λaf A outer s H vs Q E L h=>?_),wZ_,⟨er,Ck.refl sub,as!⟩,w0_,(by unfold Bh at h;exact h),w1_,[aF!,oy!,w1!,y],w2_,(List.range (min us.toArray.size oA!)).all (λj=>Dw oz! oz_)&&ke_==oA!,w3_,a5f I _ _ _ n n' r r',w4_,A.units+Ij d<cLine,w5_,⟨dx,dy,rx.mono sub,ry.mono sub,h.1.1,h.1.2,h.2,ek_⟩,w6_,⟨G,ρ,x,er,e1,λv G1 H1 s1 r1=>⟨G1,ρ,y,dm!,e2,λw G2 H2 s2 r2=>hg s2.sub g8_ r2 e3 λt G3 H3 s3 r3=>?_⟩⟩,w7_,⟨bb,rfl,?_⟩,w8_,nv.trans (s4.trans s5),w9_,sSeq CQ (sSeq AU w9!)]
def z'x:String:=z [xz!,Addr,x9!,Around,x6!,Value,x5!,World,x4!,Program,xA!,Shared,xB!,W.Frag,xa!,.bl (if neg then !(ds.any λd=>Dw d x)else ds.any λd=>Dw d x),xb!,Di its ft! none++Di its none ft!,xc!,ha.ok J s Z H _ I h,xd!,Di its ft! none,xe!,b9y (k:=oF_) r1,xf!,List D->Option D,xg!,λi _=>ft_<=i,xh!,⟨(PD.mp hc).1,λv gw hy=>?_⟩,xi!,Nat.ble ds.length 1000=true,xj!,IA (Nat.le_of_ble_eq_true hl),xk!,Aa 0 ρ=some (scr ns),xl!,[bH!,.int base,.lst ops,.int most],xm!,.str (Txt.join z ys),xn!,.tup [j9!,item,.int (m0 / 12%4),.int (m0 / 48%2000 - 1000)],xo!,dY ha.ok gA hs,xp!,s.heap.IsTupleIter jt tt n,xq!,Builtin.SmallTypes.nextOf (.ref jt),xu!,firstArgMember _ _,xv!,wpAny_handled ?_,xw!,HN (wpAny_throw ?_),xx!,xs[k1]?=some x,xy!,Builtin.«zip.__next__» ⟨[.ref z],[]⟩,xC!,cE g1 bp.extBut D.i1z,xD!,a2c xC! xC_ gx λY UU bm=>HN ?_,xE!,NN sv rfl ?_,xF!,cE (cE (cE g2 bp.extBut D.i2z) bm.extBut D.i12.symm) c9.extBut D.TOi2.symm,xG!,(by unfold Co;rw[qS rfl (LV _)];rfl),xH!,xs[k1]?=none\/ys[k2]?=none,xI!,⟨_,gz,rfl⟩,xJ!,F.args_zip_next_1 _,xK!,a∈W.its/\Ft W b/\¬Wn W.rows a b,xL!,wrT b hs! av!,xM!,DD s.heap l1 l2,xN!,[aR!,aP_,hh_],xO!,D.tup cn_∉pre,xP!,Gi W kt_ rows',xQ!,hg.winv w.inv hc.1 hc.2.1 hc.2.2,xR!,⟨fz.2.2.2.1,fz.2.1,fz.2.2.2.2.1,fz.2.2.2.2.2⟩,xS!,⟨f1.2.2.2.1,f1.2.1,f1.2.2.2.2.1,f1.2.2.2.2.2⟩,xT!,⟨f2.2.2.2.1,f2.2.1,f2.2.2.2.2.1,f2.2.2.2.2.2⟩,xU!,λv hv q hq=>?_,xV!,λc o _ _ _ e _=>e,xW!,λc o hc e n=>?_,xX!,ft ρ=some false,xY!,(λc xs e=>by rw[oR_];exact e),xZ!,λc ps e=>⟨#[],by rw[oR_,e];simp⟩,x0!,(λd q=>by rw[oU!];exact q),x1!,Ab j0_ (Ab (wl f2) (Ab (wl f3) (Ab (wl f4) Af))),x2!,bootBuiltins "zip"=some oL!,x3!,(backTo pos (starEach [b] X.env)).any b_=false,x7!,(λx y H Q=>Sv (λi j=>.bl mC_) x y H Q\/∃i j,x=.str i/\y=.str j/\Q wu! H),x8!,Fg K mg x st ps]
def z'xx:String:=z [xa_,[z_,au_,aF!,br!,none,none,none,none,none,none,none,none],xb_,λJ s Z H Q I h=>?_,xc_,Di its none ft!,xd_,mixKind X.prog X.w,xe_,Ok X.prog X.w X.K X.mg X.base k x ps g,xf_,λi _=>i<ft_,xg_,x.cps.toList.map λc=>.str ar_,xh_,∀i h,St' i h->∃o,h.get? it=some o/\∀v,o.data≠.cell v,xi_,if f_<=1000 then _ else _,xj_,λi h=>i<=ft_/\St' i h,xk_,λi h st=>UT _ i h st,xl_,ys.map V.str,xm_,("cut"==k||"set"==k),xn_,gK (g:=Vl false) (x:=.str k) rfl rfl (in2 k "cut" "set"),xo_,λw G2 H2 s2 r2=>?_,xp_,s.heap.IsTuple tt xs,xr_,a6f rfl rfl e1,xt_,Obj.cls_mapFields ..,xu_,(by first|rfl|(simp only[firstArgMember];rfl)),xv_,show A.in1.handled=none from hh,xw_,((eo!).extBut.push _).push _,xx_,ys[k2]?=some y,xB_,NT gz d_ λB lp bp=>?_,xC_,ij.extBut bp.extBut D.l1z,xD_,bp.extBut _ _ D.TOz gO,xE_,RH sv λh3 wb c9=>?_,xF_,((ip.extBut bp.extBut D.l2z).extBut bm.extBut D.l2i1).extBut c9.extBut D.l2TO,xG_,c9.extBut _ _ D.TOz.symm (bm.extBut _ _ D.i1z.symm lp),xH_,bp.extBut _ _ c1 x,xI_,F.entry_zip_next,xJ_,"StopIteration",xK_,a∈W.its/\Ft W binn/\¬Wn W.rows a binn,xL_,DF s.heap l1,xM_,DC s.heap l1 l2,xN_,(n1_).map eg_,xO_,pre++[.tup cn_],xP_,(nG_).resolve_right e,xQ_,setT W a xL!,xR_,⟨fO.2.2.2.1,fO.2.1,fO.2.2.2.2.1,fO.2.2.2.2.2⟩,xS_,(List.range m'.toNat).map λk=>.tup g4_,xV_,λc o _ _ _ e _=>vq_,xW_,λc o _ e=>⟨o,e⟩,xX_,(λc o u e=>by rw[oR_];exact e),xY_,ft ρ=some true,xZ_,I1.hok c o e,x0_,[F_,ek!,some d],x1_,X.mg "zip"=none,x2_,starEach ak_ X.env=dP_::starEach [b] X.env,x3_,.Call (.Name "zip" p) ak_ [] pos,x6_,⟨G,ρ,_,er,e1,λv G1 H1 s1 r1=>⟨G1,ρ,_,dm!,e2,xo_⟩⟩,x7_,k="undo"\/k="redo",x8_,λx O=>h x bH_]
def z'y:String:=z [ya!,W.fnOf x x jz! bT_ bE! .none kV bn pm an af ct,yb!,K.lookup f=some ⟨oc,od,.func ya!,du⟩,yc!,∀(kV bn pm:Value) (an:a8_) (af ct:Value) (us:i!),ao!=T_->bindArgs ya! db!=pure da!,yd!,λ_ K hK=>hK,ye!,k="undo"\/k="redo",yf!,(λz=>by simp at z),yg!,.tup [ky_,hv!],yh!,∀a,k' (f a)=k a,yi!,fs.map Value.ref,yj!,(show v=.none from O),yk!,(show o3_=true by decide+kernel),yl!,Pg .str os A,ym!,Pg .str os acc,yn!,.nx [Q!,aj!,y'],yo!,((Ai o.v bg!).bind λx=>Ai x ay_)=_,yp!,Bd M p (.dct (As acc a U_) (Gp acc a ep)),yq!,λM' ay y' B Y=>hR M' ay y' yp_ Y,yr!,(by rw[bo.length_eq];simp;omega),ys!,(∀b,b≠q->M' b=M b),yt!,s.heap.get? d=some o,yu!,o.data=.dict es ep,yv!,[Q!,aj!,br_,K_,z],yw!,(λx=>by simp),yx!,(pb!).getD .non,yy!,ax=none/\rest.find? dv_=Mr ks k,yz!,(by rw[<-e];exact q1),yA!,λi p h=>yz_,yB!,Bd M o yA_,yC!,Bd yB! a1 A_,yD!,mup_ne (HY jx),yE!,(by rw[F',qq];simp),yF!,.obj t.B4 hD!,yG!,uW ho hc hd (by simp[Yz]),yH!,LU (s:=es_) ho hd ?_,yI!,Builtin.Dict.takeOut a u,yJ!,(by rw[cr,i1];rfl),yK!,Hh P w K G H a c,yL!,MR P w K M1 G1 H1,yM!,(by rw[hM];simp),yN!,MR P w K M' G' H',yO!,List D->Mh->Prop,yP!,⟨λJ s Z H Q I ⟨G,ρ,M,R,st,e,k⟩=>h J s Z H Q I pl_⟩,yQ!,⟨_,by assumption,h⟩,yR!,(∃SZ,Vc W' SZ),yS!,Tl X.prog X.w X.K own G H Z ρ M,yT!,(show h1+20*(os.length+1)=h1+20+20*os.length by omega),yU!,⟨G1,ρ,M1,R,kI_,r1,λd M2 G2 H2 r2 x2 m2=>k d M2 G2 H2 r2 cL_ m2⟩,yV!,λy hy z=>?_,yW!,λd M2 v G2 H2 r2 x2 m2 q2=>k d M2 v G2 H2 r2 cL_ m2 q2,yX!,∀c,rl c≠.oth->M' c=M c,yY!,x1.trans (.ext pq!) m1,yZ!,(ops.map Op.nm).Nodup,y0!,[bZ_,F_,br_,none,none],y1!,(λx _=>by simp),y2!,(kK!).nodup_iff.mpr nn,y3!,some (.lst kL!),y4!,λB Y z q=>?_,y5!,∀au s',Inv X J Z kM_ s'->Hh X.prog X.w X.K G kM_ a y4_->Q () s',y6!,⟨_,rfl,JQ h⟩,y7!,.builtin "dict.get",y8!,⟨o,rfl,h ho⟩,y9!,a3y I B D' bx h4 ?_]
def z'yy:String:=z [ya_,W.nsIn K mainGlobals x=some eX_,yb_,W.codeIn K af x=true,yc_,.lst ((dt_).map ky!),yd_,rows.map (AH w),ye_,(Sum.inr r.1:L2.Key)=Sum.inr y,yf_,Sum.inr.inj z,yg_,⟨rfl,rfl,rfl⟩,yh_,fs.map V.ref,yi_,(a.map Op.key).Nodup,yj_,λx=>Aw x aE_,yk_,(show o4!=true by decide+kernel),yl_,Pg o7! os h1,ym_,PQ hT NU.lookup ?_,yn_,⟨trivial,hR M ep y hp λb _=>rfl⟩,yo_,Mr ks k=some j,yp_,(by unfold Pg;rw[hu];exact B),yq_,λo ho=>hd o (bo.mem_iff.mp ho),yr_,λM' ep y B Y=>hR p M' ep hp B λb hb=>(Y b hb).trans o9!,ys_,Option Nat->Shared->Prop,yt_,Oo P w s.heap es ks,yu_,dictWalkPlain d u dw! es kB_,yv_,(by simpa using b9),yw_,λe=>hh (by rw[q3,e];simp),yx_,ks[i]?=some k',yy_,[bZ_,none,none,none,none],yz_,(by simp[W0]at h),yA_,.obj t.B4 [],yB_,⟨by rw[IG];exact b1u,G_⟩,yC_,.dct kD_ (pe!).length,yD_,qR (s:=es_) hu x hk ho hd ?_,yE_,.dct kF! (pg!).length,yF_,dictSet a u v,yG_,Bo fd_ (.fn a4) ph_,yH_,es.eraseIdx j,yI_,(by simpa using ai),yJ_,.ins C dx vs,yK_,if root=root then _ else _,yL_,(if root=binn then _ else(if binn=binn then _ else _))=_,yM_,⟨?_,Y.mono x.g ?_⟩,yN_,D->Mh->Prop,yO_,Zk X.prog X.w X.K own f,yP_,∀Z G H Q ρ M R,Tl X.prog X.w X.K own G H Z ρ M->ft ρ M R->(∀d M' G' H',R d M'->XM M G H M' G' H'->MR X.prog X.w X.K M' G' H'->Q d H')->t Z H Q,yQ_,(∀x∈os,x.nm∉pre),yR_,[Q!,F_,br_,some x.v,z],yS_,h5 q (by rw[oy];simp) jw,yT_,⟨_,rfl,k _ M' G' H' r' x' m'⟩,yU_,k _ M1 G1 H1 r1 x1 m1,yV_,(by rw[show Op.nm x=Op.nm y from z.symm];exact IE hy),yW_,k _ M1 _ G1 H1 r1 x1 m1 Au.bl,yX_,⟨r',f',p',v1,v2.keep (k _ bG_) (k _ cI!) (k _ cI_),v3,v4,v5⟩,yY_,x1.sub.free hp,yZ_,(∃pre,Vc W' pre),y0_,hp.mem_iff.mp O,y1_,⟨B,Y.mono (Bj.refl G) (bC hb)⟩,y2_,(by rw[e3,e1];exact hb),y3_,((j+1:Nat):Int),y4_,.dct pj! (Gp kvs d ep),y5_,kget kvs d=some x,y6_,acc.map Op.v,y7_,.int (cO_:Nat),y8_,Builtin.Dict.keyAndDefault,y9_,[bZ_,none,none,none]]
def z'z:String:=z [za!,[bZ_,hJ!,none,none],zb!,QN (HN ⟨_,rfl,q3⟩),zc!,BEq.comm (a:=Str.ofString "redo"),zd!,Gp acc u.2 ep,ze!,if _ then _ else kQ!,zf!,decide (q.2=x),zg!,∀q∈rs,Sd q.1/\Sd q.2,zh!,Sn X.prog X.w X.K r g,zi!,Bf [.lst ew_]=_,zj!,.bl (!decide ((fK_).2=p)),zk!,Ck.laid sub hl,zl!,Addr×List aF_×Nat,zm!,[Q_,M!,cD!,dq!,hL_,hM_,y],zn!,dY ha.ok gA bv,zo!,⟨.inl ⟨rfl,zd,Fn.of hH⟩,G1,ρ,M1,_,kI_,r1,λz M2 u G2 H2 r2 x2 m2 q2=>?_⟩,zp!,ifT (by rw[cond,IT z]) ?_,zq!,(by rw[cond,IK z]),zr!,Vr M w rl W wt wn qa,zs!,⟨yv,q2,ry⟩,zt!,λb _ L=>zs_,zu!,hb.run I2 zt_ r2 λz M3 zv G3 H3 jv s3 r3 x3 m3 q3 I3 rz=>OY ?_,zv!,⟨yv,q2.mono x3.g,ry⟩,zw!,⟨zv,q3,rz⟩,zx!,!decide (q.1=i),zy!,s.heap.push {cls:=.type "dict",data:=.dict #[]},zz!,dE s.heap.objs.size [] 0,zA!,(rs.take a++bS!::rs.drop a),zB!,.lst ((ew_).drop a),zC!,⟨[],bV,.nil,MY⟩,zD!,some (.inl (.inr "rows")),zE!,⟨wt,wn,qa,g1⟩,zF!,Bd M c (.dct (acc++kvs) (n+aG!)),zG!,ForInStep PUnit,zH!,(Ai ew! O!).bind zf_=_,zI!,DM X.prog X.w X.K M0 G0 F0 own hx f,zJ!,Ck G k1! G' H',zK!,HR (λL=>by rw[(s.root L).2]at e;cases e),zL!,Da (knd "move"),zM!,Fo (Da (knd "set")) Ur,zN!,Y.ok M0 G0 F0,zO!,Aa 2 ρ=some oT!,zP!,b=true->q1 ρ M R,zQ!,⟨G',ρ,M',R,sr.grow x m,r,k1,k2⟩,zR!,sr.grow x1 m1,zS!,l.any λd=>Dw d x,zT!,.write m3 x3.sub hM,zU!,Y _ _ _ _ _ _,zV!,λd M' v G' H' r x m q=>?_,zW!,(λd=>match d with|.int k=>D.tup zU_|_=>.non)∘λi=>D.int aG_,zX!,wi.sg a ha q hq,zY!,l[j]?.map b_,zZ!,[A!,Q_,zY_,fN_,y4,some k3!,hM_,y,none,none],z0!,Ac g (Ac k Ag),z1!,⟨m9,cf.mr,as!⟩,z2!,Zk X.prog X.w X.K [] ft,z3!,∀cl C al bc fp,ME ch_ [] dw fe,z4!,[aR!,aP_,.int an_],z5!,Dt X.prog X.w X.K X.mg X.base k C m ps g,z6!,⟨G,ρ,M,_,st,e',λd M1 v G1 H1 r1 x1 m1 q1=>?_⟩,z7!,.lst ((wrT b nw av!).map Be),z8!,decide (a=root),z9!,Wr X.prog X.w X.K X.mg X.base k x C ps g]
def z'zz:String:=z [za_,KS fin (λao s' ⟨e1,o,q1,q2,q3⟩=>?_) λ_ _ z=>z,zb_,BEq.comm (a:=Str.ofString "undo"),zc_,As acc u.2 fA!,zd_,[q.1,q.2.1,.bl q.2.2],ze_,tT (A:=X.A) a! I m sub e ⟨_,r,rx⟩ hk λs' I'=>HN ⟨.bl _,H,I',rfl,q⟩,zf_,λz=>Aw z x,zg_,(match rs[k]? with|some q=>!decide (q.2=p)|none=>false),zh_,x1.trans kU_ m1,zi_,L2.Key×Value,zj_,⟨ys,z,rfl⟩,zk_,(f1 Bf gk_ bu!).bind (λz=>Jk cM_ z)=_,zl_,Bd M2 q.1 (.lst (q.2++[v])),zm_,List.range' k m,zn_,(zm_).map λj=>D.int kL_,zo_,(cL_).trans (.write m2 x2.sub z3) m2,zp_,.Attribute o "get" ag,zq_,.inr ⟨j,t_,Y,h3⟩,zr_,OE (MO (ha.run I1 fL! r1 λy M2 yv G2 H2 iv s2 r2 x2 m2 q2 I2 ry=>OY ?_)),zs_,⟨aw b eb_,L⟩,zt_,(fL!).grow x2 m2,zu_,(by rw[hA.rn];simp),zv_,(b1_).mono x3.g,zw_,[A!,M!,cD!,dq!,none,none,none],zx_,[A!,M!,cD!,dq!,hL_,n2!,none],zy_,⟨_,dO_,yg_,rfl⟩,zz_,.inl ⟨rfl,λj hj=>by omega⟩,zA_,I.laid (t':=s.toks) u3_ x_ ⟨⟨D0,KH.mpr (HY (JK I.big)),JU _⟩,let⟨o,h,_⟩:=D0;pq_,y4!⟩,zB_,.lst ((ew_).take a++[Bg bS!]),zC_,List aF_->Mh->Prop,zD_,MP X own pos keys jn fp,zE_,PUnit->Shared->Prop,zF_,λq=>decide hN_,zG_,(by rw[IL,KU];omega),zH_,Bd M s.heap.objs.size A_,zI_,λj hj p e=>?_,zJ_,λb o e hb=>?_,zK_,Da (knd "put"),zL_,Da (knd "drop"),zM_,MS X own bh st q1,zN_,Aq (Fo (Da (knd "write")) Ur) Tg (Aq (Fo (Da (knd "cut")) Ur) Xz Bq),zO_,Fo (Da ft) fu,zP_,b=false->q2 ρ M R,zQ_,∀K:D->Mh->Prop,fo ρ M K=K x M,zR_,(zR!).grow x2 m2,zS_,.Subscript o i p2,zT_,(av!).length<5000,zU_,[fg!,fg_,.int (z+k)],zV_,Vq X own own body q1,zW_,(s,c,b&&!decide (s∈cu)),zX_,show Be q=.tup zd_ from rfl,zY_,some (.tup [j8_,a0,b,tx]),zZ_,decide ((l[k]).1=b),z0_,[A!,Q_,fO!,bp_,y4,hR!,some O!,none,none,none],z1_,(.tup xN!,.str ⟨#[s.cps.toList.getD k.toNat 0]⟩,true),z2_,∀cl C al bc fp,Py ch_ c7 z2!,z3_,Ca NL.length ix fi bnd ft fe,z4_,⟨p5.or.cap NL.length ix nj,m1,as!⟩,z5_,.lst ((ex_).drop at_),z6_,.lst ((ex_).take at_++nw.map Be),z7_,D.tup U!∉W.its,z8_,p1 (k:="put") (a:=a) (r:=[b]) rfl,z9_,.dct (cr_++[(.tup U!,.lst [])]) (Gp cr_ ah_ e1)]
end
open Lean in
local macro_rules|`($s:ident)=>match s.getId with|.str .anonymous t=>let c:=t.back;if c=='!'||c=='_' then match (let b:=c=='!';if t.length<3 then if b then z'0 else z'00 else match t.front with|'a'=>if b then z'a else z'aa|'b'=>if b then z'b else z'bb|'c'=>if b then z'c else z'cc|'d'=>if b then z'd else z'dd|'e'=>if b then z'e else z'ee|'f'=>if b then z'f else z'ff|'g'=>if b then z'g else z'gg|'h'=>if b then z'h else z'hh|'i'=>if b then z'i else z'ii|'j'=>if b then z'j else z'jj|'k'=>if b then z'k else z'kk|'l'=>if b then z'l else z'll|'m'=>if b then z'm else z'mm|'n'=>if b then z'n else z'nn|'o'=>if b then z'o else z'oo|'p'=>if b then z'p else z'pp|'q'=>if b then z'q else z'qq|'r'=>if b then z'r else z'rr|'s'=>if b then z's else z'ss|'t'=>if b then z't else z'tt|'u'=>if b then z'u else z'uu|'v'=>if b then z'v else z'vv|'w'=>if b then z'w else z'ww|'x'=>if b then z'x else z'xx|'y'=>if b then z'y else z'yy|'z'=>if b then z'z else z'zz|_=>if b then z'0 else z'00).splitOn ("\r"++t++"\r") with|[_,f]=>do return z'Z (.fromRef (<-getRef)) f|_=>Macro.throwUnsupported else Macro.throwUnsupported|_=>Macro.throwUnsupported
open Lean in
local macro_rules|`(tactic|push_cast)=>`(tactic|show"pc!")|`(tactic|push_cast[$x,*])=>match z't't.splitOn "\rpc!\r" with|[_,f]=>do let s:=(z'Z (.fromRef (<-getRef)) f)[1][1][0][0][0];return s.setArg 4 (s[4].setArg 1 (mkNullNode (s[4][1].getArgs.push (mkAtom ",")++x.elemsAndSeps)))|_=>Macro.throwUnsupported
open Lean in
local macro_rules|`(tactic|show$s:str)=>match z't't.splitOn ("\r"++s.getString++"\r") with|[_,f]=>do let q:=z'Z (.fromRef (<-getRef)) f;let q:TSyntax ``Lean.Parser.Tactic.tacticSeq:=⟨q[1][1]⟩;`(tactic|($q))|_=>Macro.throwUnsupported
set_option hygiene true
open Lean in
def z'N:Nat->Syntax->Syntax
|n+1,.node _ k a=>.node .none k (a.map (z'N n))
|_,.atom _ v=>.atom .none v
|_,.ident _ r n p=>.ident .none r n p
|_,x=>x
open Lean in
local macro_rules(kind:=Lean.Parser.Command.declaration)|x=>if x.getPos?.isNone||x[1].isOfKind ``Parser.Command.theorem then Macro.throwUnsupported else let k:=z'N 9999 x[1];let u:=match k[1][0].getId with|.str _ s=>s.front.isUpper|_=>false;match k.isOfKind ``Parser.Command.definition,(x[0].reprint.getD "").trimAscii.toString,u with|true,"",false=>do return z'N 9999 (<-`(theorem $(⟨k[1]⟩):declId $(⟨.node .none ``Parser.Command.declSig #[k[2][0],k[2][1][0]]⟩):declSig $(⟨k[3]⟩):declVal))|true,"nonrec",_|true,"",_=>do return z'N 9999 (<-`(noncomputable def $(⟨k[1]⟩):declId $(⟨k[2]⟩):optDeclSig $(⟨k[3]⟩):declVal))|_,_,_=>return z'N 9999 x
open Lean in
local macro_rules|`(universe $x*)=>do let p:=`PySem.Challenge;let c:=p.str "cw_manyhands_k11_whole_alike_holds";return mkNullNode (<-(p.str "pw_manyhands_k11_whole_alike"::x.toList.map (λi=>c.str i.getId.toString)++(List.range 807).map λn=>c.str s!"o_{n+43}").toArray.mapM λn=>do return z'N 99 (<-`(noncomputable def $(mkIdent (PySem.W.Fast.stemOf n).1):ident:=0)))
universe env_41 heap_39 heap_46 heap_850 sts_109 sts_152 sts_217 sts_247 sts_298 sts_49 sts_500 sts_537 sts_595 sts_64 sts_677 sts_762 sts_79 sts_843 sts_94 tree_108 tree_151 tree_214 tree_246 tree_297 tree_414 tree_47 tree_496 tree_536 tree_594 tree_63 tree_676 tree_761 tree_78 tree_842 tree_849 tree_93 view_39
local macro_rules|`(tactic|omega)=>`(tactic|first|lia|omega +splitDisjunctions)
theorem z'Hd{G:Prop}(h:∀g:Prop,(G->g)->g):G:=h G λx=>x
local macro_rules|`(tactic|obtain $p:rcasesPatMed:=$e:term)=>do let s:=p.raw.reprint.getD "";if (s.splitOn ",").length>2+(s.splitOn "rfl").length then `(tactic|first|(refine z'Hd λg k=>?_;rcases $e:term with $p:rcasesPatMed<;>refine k ?_<;>clear g k)|rcases $e:term with $p:rcasesPatMed) else `(tactic|rcases $e:term with $p:rcasesPatMed)
noncomputable section
namespace L2
open PySem PySem.Spec PyProof.Rows
abbrev Key:=Sum Int Str
def Rg:Key->Value->Bool
 |.inl k,v=>Value.isInt k v
 |.inr x,v=>Value.isStrOf x v
def CL(w:x5!):Key->Int
 |.inl k=>hashInt k
 |.inr x=>hashStr w x
def bP:∀{k:Key} {v:x6!},Rg k v=true->(∃i t,k=Sum.inl i/\v=Value.int i t)\/(∃x t,k=Sum.inr x/\v=Value.str x t)
 |.inl i,v,h=>by
  obtain⟨t,e⟩:=Value.isInt_shape (k:=i) (v:=v) h;exact .inl ⟨i,t,rfl,e⟩
 |.inr x,v,h=>by
  obtain⟨t,e⟩:=Value.isStrOf_shape (x:=x) (v:=v) h;exact .inr ⟨x,t,rfl,e⟩
def a0a(i:Int)(t:Tok):Rg (.inl i) dD!=true:=by simp[Rg,Value.isInt]
def sI(x:Str)(t:Tok):Rg (.inr x) lw_=true:=by simp[Rg,Value.isStrOf]
def c8j(a b:Int):decide (lv_=Sum.inl b)=fZ!:=by
 by_cases e:a=b
 .subst e;simp
 .have h:¬lv_=Sum.inl b:=λq=>e (Sum.inl.inj q);rw[IK h];exact(KH.mpr e).symm
def c8g(a b:Str):decide (lx!=Sum.inr b)=decide (a=b):=by
 by_cases e:a=b
 .subst e;simp
 .have h:¬lx!=Sum.inr b:=λq=>e (Sum.inr.inj q);rw[IK h,IK e]
def c8i(a:Int)(b:Str):decide (lv_=Sum.inr b)=false:=IK qx!
def c8h(a:Str)(b:Int):decide (lx!=Sum.inl b)=false:=IK qx!
nonrec def mixKind(prog:x4!)(w:x5!):PySem.KeyKind prog w Key where
 is:=Rg
 hash:=CL w
 inj:=λv a b ha hb=>by
  obtain⟨i,t,rfl,rfl⟩|⟨x,t,rfl,rfl⟩:=bP ha
  .obtain⟨j,u,rfl,e⟩|⟨y,u,rfl,e⟩:=bP hb
   .injection e with e1 _;rw[e1]
   .exact lz!
  .obtain⟨j,u,rfl,e⟩|⟨y,u,rfl,e⟩:=bP hb
   .exact lz!
   .injection e with e1 _;rw[e1]
 byValue:=λk v h=>by
  obtain⟨i,t,rfl,rfl⟩|⟨x,t,rfl,rfl⟩:=bP h<;>rfl
 pyHash:=λhv h=>by
  obtain⟨i,t,rfl,rfl⟩|⟨x,t,rfl,rfl⟩:=bP hv
  .exact wpAny_pyHash_int h
  .exact wpAny_pyHash_str h
 eqBool:=λhu hv h=>by
  obtain⟨i,t,rfl,rfl⟩|⟨x,t,rfl,rfl⟩:=bP hu
  .obtain⟨j,u,rfl,rfl⟩|⟨y,u,rfl,rfl⟩:=bP hv
   .rw[c8j]at h;exact wpAny_eqBool_int h
   .rw[c8i]at h;exact SeqAt.EqAt.int_str i t y u _ _ _ _ h
  .obtain⟨j,u,rfl,rfl⟩|⟨y,u,rfl,rfl⟩:=bP hv
   .rw[c8h]at h;exact SeqAt.EqAt.str_int x t j u _ _ _ _ h
   .rw[c8g]at h;exact wpAny_eqBool_str h
 «strs»:=λk x t v h=>by
  obtain⟨i,u,rfl,e⟩|⟨y,u,rfl,e⟩:=bP h
  .exact lz!
  .injection e with e1 _
   subst e1;cases v<;>rfl
def a6i(prog:x4!)(w:x5!)(i:Int)(t:Tok):(qy!).is (.inl i) dD!=true:=a0a i t
def mB(prog:x4!)(w:x5!)(x:Str)(t:Tok):(qy!).is (.inr x) lw_=true:=sI x t
end L2
namespace L2
open PySem PySem.Spec PyProof.Rows
inductive V where
 |non|bl (b:Bool)|int (i:Int)|str (x:Str)|byt (b:Array UInt8)|flt (b:UInt64)|ref (a:xz!)|ty (n:String)
 deriving DecidableEq
def Bs:V->Value->Prop
 |.non,u=>u=dD_
 |.bl b,u=>u=Value.bool b
 |.int i,u=>∃t,u=Value.int i t
 |.str x,u=>∃t,u=Value.str x t
 |.byt b,u=>∃t,u=Value.bytes b t
 |.flt b,u=>∃t,u=Value.float b t
 |.ref a,u=>u=Value.ref a
 |.ty n,u=>u=Value.type n
abbrev Bc:List V->List Value->Prop:=Paired Bs
def Bc.length{xs:l_}{us:i!}(r:h7_):k_=ao!:=NA r
def Bc.get:∀{xs:l_} {us:i!} {i:Nat} {x:V},Bc xs us->xs[i]?=some x->∃u,us[i]?=some u/\Bs x u
 |_,_,_,_,.nil,e=>by simp at e
 |_,_,0,_,.cons r _,e=>by simp at e;subst e;exact lz_
 |_,_,i+1,x,.cons _ t,e=>by
  obtain⟨u,B,Y⟩:=Bc.get (i:=i) (x:=x) t cS!;exact⟨u,h7!,Y⟩
def Bc.set{x:V}{u:x6!}(r:Bs x u):∀{xs:l_} {us:i!} (i:Nat),Bc xs us->Bc (xs.set i x) (us.set i u)
 |_,_,_,.nil=>.nil
 |_,_,0,.cons _ t=>.cons r t
 |_,_,i+1,.cons q t=>.cons q (Bc.set r i t)
def Bc.append:∀{xs ys:l_} {us ws:i!},Bc xs us->Bc ys ws->Bc eD! (us++ws)
 |_,_,_,_,.nil,s=>s
 |_,_,_,_,.cons r t,s=>.cons r (Bc.append t s)
def Bc.take:∀{xs:l_} {us:i!} (n:Nat),Bc xs us->Bc (xs.take n) (us.take n)
 |_,_,0,_=>.nil
 |_,_,_+1,.nil=>.nil
 |_,_,n+1,.cons r t=>.cons r (Bc.take n t)
def Bc.drop:∀{xs:l_} {us:i!} (n:Nat),Bc xs us->Bc (xs.drop n) (us.drop n)
 |_,_,0,r=>r
 |_,_,_+1,.nil=>.nil
 |_,_,n+1,.cons _ t=>Bc.drop n t
def Ol:Option V->Option Value->Prop
 |some v,some u=>Bs v u
 |none,none=>True
 |_,_=>False
def KV{κ:Type}:List (κ×V)->List lB_->Prop:=Paired λ(p:κ×V) (q:κ×Value)=>p.1=q.1/\Bs p.2 q.2
nonrec def kV:Key->V
 |.inl i=>.int i
 |.inr x=>.str x
inductive HO where
 |lst (xs:l_)
 |tup (xs:l_)
 |dK (kvs:List (Key×V))|dT (kvs:h8!)
 |set (S:Int->Bool) (n:Nat)
 |ins (C dx:xz!) (fs:eD_)
 |own (x:xz!)
 |xd (fs:eD_)
 |met (f x:xz!)
 |rng (lo hi:Int)
 |frz (o:Obj) (u:HO)
 |tbl (ps:W!)
 |ext (φ:Heap->Prop)
abbrev Hp:=Addr->Option HO
nonrec def upd(H:Hp)(a:xz!)(o:HO):Hp:=λb=>if b=a then some o else H b
def bV{H:Hp}{a:xz!}{o:HO}:upd H a o a=some o:=by unfold upd;rw[j!]
def bC{H:Hp}{a b:xz!}{o:HO}(h:b≠a):upd H a o b=H b:=by unfold upd;rw[HR h]
def cJ{H:Hp}{a b:xz!}{o:HO}(h:H a=some o)(h':H b=none):a≠b:=by intro e;subst e;rw[h]at h';cases h'
section
variable(P:x4!)(w:x5!)
def Fb(H:Hp)(h:Heap)(a:xz!):HO->Prop
 |.lst xs=>k_<=sizeLine/\∃(its:i!) (n:Nat),Bc xs its/\h.get? a=some {cls:=.type "list",data:=.seq its.toArray n}
 |.tup xs=>k_<=sizeLine/\∃its:List Value,Bc xs its/\IsTup h a be!
 |.dK kvs=>aG!<=sizeLine/\dE_=false/\∃vs,KV kvs vs/\h.DictOf bv! a vs
 |.dT kvs=>aG!<=sizeLine/\dE_=false/\∃xs:List lC!,
   Paired (λ(p:List Key×V) (q:List Key×Addr×Value)=>p.1=q.1/\H q.2.1=some qB!/\Bs p.2 q.2.2) kvs xs/\
   ∃o es ep,h.get? a=some o/\h9!/\o.data=.dict es ep/\es.toList=xs.map (entryOfKey f0!)/\(xs.map b_).Nodup
 |.set S n=>h.SetOf (intKind P w) a S n
 |.ins C dx fs=>H dx=some f0_/\bv_<=1000/\dx≠a/\h.get? a=some lC_/\
   ∃mA,h.Ns1 dx mA/\qD!/\PySem.Within mA lD!
 |.own _=>∃o,h.get? a=some o
 |.xd fs=>∃mA,h.Ns1 a mA/\∀f,Ol (fs.lookup f) (mA f)
 |.rng lo hi=>∃t u v,h.get? a=some {cls:=.type "range",data:=.fields #[.int lo t,.int hi u,.int 1 v]}
 |.frz o u=>h.get? a=some o/\Fb H h a u
 |.tbl ps=>h.get? a=some {cls:=.none,data:=.fields ps}
 |.met f x=>h.get? a=some (W.methodObj aj_ f1!)
 |.ext φ=>φ h/\(∃o,h.get? a=some o)/\∀B Y:Heap,φ B->(∀o,B.get? a=some o->Y.get? a=some o)->φ Y
def Om(H:Hp)(h:Heap):Prop:=∀a o,H a=some o->Fb P w H h a o
end
section
variable{P:x4!}{w:x5!}{H H':Hp}{h h':Heap}{a:xz!}{o:HO}
def Fb.lt(x:qE!):a<cS_:=by
 cases o with
 |lst xs=>obtain⟨_,_,_,_,e⟩:=x;exact IY e
 |tup xs=>obtain⟨_,_,_,p⟩:=x;exact p.lt
 |dK kvs=>obtain⟨_,_,_,_,o,_,_,e,_⟩:=x;exact IY e
 |dT kvs=>obtain⟨_,_,_,_,o,_,_,e,_⟩:=x;exact IY e
 |set S n=>obtain⟨o,_,_,_,e,_⟩:=x;exact IY e
 |ins C dx fs=>obtain⟨_,_,_,e,_⟩:=x;exact IY e
 |own y=>obtain⟨_,e⟩:=x;exact IY e
 |xd fs=>obtain⟨_,⟨_,_,_,e,_⟩,_⟩:=x;exact IY e
 |rng lo hi=>obtain⟨_,_,_,e⟩:=x;exact IY e
 |frz ob u=>obtain⟨e,_⟩:=x;exact IY e
 |tbl ps=>exact IY qE_
 |met f y=>exact IY qE_
 |ext φ=>obtain⟨_,⟨_,e⟩,_⟩:=x;exact IY e
def Paired.mapP{α β:Type}{F G:cT!}:∀{l₁:N_} {l₂:dF!},Paired F l₁ l₂->(∀a b,F a b->G a b)->Paired G l₁ l₂
 |_,_,.nil,_=>.nil
 |_,_,.cons r t,f=>.cons (f _ _ r) (Paired.mapP t f)
def Fb.stay(x:qE!)(k:∀b u,(b=a\/H b=some f0_)->h.get? b=some u->h'.get? b=some u)
  (ho:∀b,H b=some f0_->H' b=some f0_)(ht:qF!):Fb P w H' h' a o:=by
 induction o with
 |lst xs=>obtain⟨z,its,n,r,e⟩:=x;exact⟨z,its,n,r,bK!⟩
 |tup xs=>obtain⟨z,its,r,ob,e,c⟩:=x;exact⟨z,its,r,ob,bK!,c⟩
 |dK kvs=>obtain⟨z,y,vs,r,ob,es,ep,e,c⟩:=x;exact⟨z,y,vs,r,ob,es,ep,bK!,c⟩
 |dT kvs=>
  obtain⟨z,y,xs,r,ob,es,ep,e,c⟩:=x;exact⟨z,y,xs,Paired.mapP r λp q z=>⟨z.1,ht _ _ z.2.1,z.2.2⟩,ob,es,ep,bK!,c⟩
 |set S n=>obtain⟨ob,es,ep,t,e,c⟩:=x;exact⟨ob,es,ep,t,bK!,c⟩
 |ins C dx fs=>
  obtain⟨d,z,ne,e,mA,⟨od,es,ep,e2,c⟩,r⟩:=x;exact⟨ho _ d,z,ne,bK!,mA,⟨od,es,ep,k _ _ (.inr d) e2,c⟩,r⟩
 |own y=>obtain⟨ob,e⟩:=x;exact⟨ob,bK!⟩
 |xd fs=>obtain⟨mA,⟨od,es,ep,e,c⟩,r⟩:=x;exact⟨mA,⟨od,es,ep,bK!,c⟩,r⟩
 |rng lo hi=>obtain⟨t,u,v,e⟩:=x;exact⟨t,u,v,bK!⟩
 |frz ob u ih=>obtain⟨e,q⟩:=x;exact⟨bK!,ih q⟩
 |tbl ps=>
  have e:h.get? a=some {cls:=.none,data:=.fields ps}:=x;show h'.get? a=some {cls:=.none,data:=.fields ps};exact k a _ ao_ e
 |met f y=>
  have e:h.get? a=some qG!:=x;show h'.get? a=some qG!;exact k a _ ao_ e
 |ext φ=>obtain⟨p,⟨o,e⟩,st⟩:=x;exact⟨st _ _ p λo q=>k _ _ ao_ q,⟨o,bK!⟩,st⟩
def Om.lt(x:bw!)(e:H a=some o):a<cS_:=(x a o e).lt
def Om.fresh(x:bw!)(e:cS_<=a):H a=none:=by
 cases q:H a with
 |none=>rfl
 |some u=>exact absurd (IV (x.lt q) e) dF_
def Om.kept(x:bw!)(k:ia!):Om P w H h':=λa o e=>
 (x a o e).stay (λb u _ q=>k b u q) lE_ λ_ _ q=>q
def Om.laid(x:bw!)(k:ia!)(hp:cS_<=a)(new:Fb P w cT_ h' a o):Om P w cT_ h':=λb u e=>by
 have hn:=x.fresh hp;show"#8"
 .show"!x";exact new
 .rw[bC hb]at e;exact(x b u e).stay (λc v _ q=>k c v q) (λc q=>by rw[f2!];exact q) λc xs q=>by rw[f2!];exact q
end
def Rd(H:Hp)(a:xz!)(u:HO):Prop:=H a=some u\/∃o,H a=some f2_
def Rd.ok{P:x4!}{w:x5!}{H:Hp}{h:Heap}{a:xz!}{u:HO}(r:Rd H a u)(x:bw!):Fb P w H h a u:=by
 obtain r|⟨o,r⟩:=r
 .exact x a u r
 .obtain⟨_,q⟩:=x a _ r;exact q
def CW:Option HO->Prop
 |some (.lst _)=>True
 |some (.dK _)=>True
 |some (.dT _)=>True
 |some (.set _ _)=>True
 |some (.ins _ _ _)=>True
 |some (.ext _)=>True
 |_=>False
section
variable{P:x4!}{w:x5!}{H:Hp}{h h':Heap}{x e:xz!}{o':HO}
def Om.write(ok:bw!)(mu:CW (H x))(he:lF!)(k:qH_)(ph:lF_)
  (new:Fb P w (upd H x o') h' x o'):Om P w (upd H x o') h':=λb u q=>by
 have TN:∀c y,H c=some (.own y)->c≠x:=λc y r z=>by subst z;rw[r]at mu;exact mu
 have XV:∀c xs,H c=some bJ_->c≠x:=λc xs r z=>by subst z;rw[r]at mu;exact mu
 by_cases hb:b=x
 .subst hb;rw[bV]at q;cases q;exact new
 .rw[bC hb]at q;by_cases mj:b=e
  .have q':H b=some ia_:=by
    obtain z|z:=he
    .exact absurd (mj.trans z) hb
    .rw[mj];exact z
   rw[q]at q';cases q';obtain⟨v,hv⟩:=ph;exact⟨v,by rw[mj];exact hv⟩
  .refine(ok b u q).stay (λc v hc r=>k c v ?_ r) (λc r=>by rw[bC (TN c b r)];exact r) λc xs r=>by rw[bC (XV c xs r)];exact r
   obtain rfl|hc:=hc
   .exact mj
   .rintro rfl;obtain z|z:=he
    .exact TN c b hc z
    .rw[hc]at z;cases z;exact hb rfl
end
structure Un(fs ex:aw!)(H H':Hp)(h h':Heap):Prop where
 keep:∀b o,h.get? b=some o->H b=none->b∉fs->b∉ex->h'.get? b=some o
 slot:∀b o,h.get? b=some o->H b=none->b∈fs->b∉ex->∃sl,h'.get? b=some {o with slots:=sl}
 free:∀b o,h.get? b=some o->H b=none->b∉ex->H' b=none
 there:∀b o,h.get? b=some o->b∉ex->∃o',h'.get? b=some o'
 tups:∀b xs,H b=some bJ_->H' b=some bJ_
 frzs:∀b o u,H b=some f2_->H' b=some f2_
 tbls:∀b ps,H b=some (.tbl ps)->∃pi,H' b=some qI_
section
variable{fs vf ex ex':List Addr}{H H1 H2:Hp}{h B Y h':Heap}{a x e:xz!}{o:HO}
def Un.any(u:Un fs ex H H1 h B){b:xz!}(q:h.get? b=some ob)(n:H b=none)(O:b∉ex):∃sl,B.get? b=some {ob with slots:=sl}:=by
 by_cases hb:b∈fs
 .exact u.slot b ob q n hb O
 .exact⟨ob.slots,u.keep b ob q n hb O⟩
def Un.kept(k:ia!):Un fs ex H H h h':=
 ⟨λb ob q _ _ _=>k b ob q,λb ob q _ _ _=>⟨ob.slots,k b ob q⟩,λ_ _ _ n _=>n,λb ob q _=>⟨ob,k b ob q⟩,λ_ _ q=>q,λ_ _ _ q=>q,λ_ ps q=>⟨#[],by rw[q];simp⟩⟩
def Un.refl:Un fs ex H H h h:=Un.kept λ_ _ q=>q
def Un.laid(k:ia!)(hp:cS_<=a)(hn:ic_):Un fs ex H cT_ h h' where
 keep:=λb u q _ _ _=>k b u q
 slot:=λb u q _ _ _=>⟨u.slots,k b u q⟩
 free:=λb u q n _=>by rw[bC (JK (IV (IY q) hp))];exact n
 there:=λb u q _=>⟨u,k b u q⟩
 tups:=λb xs q=>by rw[f2!];exact q
 frzs:=λb u xs q=>by rw[f2!];exact q
 tbls:=λb ps q=>⟨#[],by rw[f2!,q];simp⟩
def Un.write(mu:CW (H x))(he:lF!)(k:qH_)(ph:lF_):Un fs ex H lH! h h':=by
 have O:∀b,H b=none->b≠x:=λb n z=>by subst z;rw[n]at mu;exact mu
 have hb:∀b,H b=none->b≠e:=λb n z=>by
  subst z;obtain r|r:=he
  .exact O b n r
  .rw[n]at r;cases r
 have hm:∀b u,H b=some u->¬CW (some u)->b≠x:=λb u q nm z=>by subst z;rw[q]at mu;exact nm mu
 refine⟨λb u q n _ _=>k b u (hb b n) q,λb u q n _ _=>⟨u.slots,k b u (hb b n) q⟩,λb u q n _=>by rw[bC (O b n)];exact n,λb u q _=>?_,
  λb xs q=>by rw[lH_];exact q,λb u xs q=>by rw[lH_];exact q,λb ps q=>⟨#[],by rw[lH_,q];simp⟩⟩
 by_cases mj:b=e
 .subst mj;exact ph
 .exact⟨u,k b u mj q⟩
end
def DK(h:Heap)(H:Hp):List Addr:=(qL_).filter λa=>(H a).isSome
def Td(h:Heap)(H:Hp):Heap:=W.hideAll h (DK h H)
def b5r(h:Heap)(H:Hp):(id_).objs.size=cS_:=W.hideAll_size _ _
def c0h{h:Heap}{H:Hp}{b:xz!}{o:Obj}(e:qM_)(n:H b=none):(id_).get? b=some o:=
 W.hideAll_get _ e λhm=>by
  have q:(H b).isSome=true:=(KM.mp hm).2;rw[n]at q;simp at q
def c3p{h:Heap}{H:Hp}{b:xz!}{o:Obj}(e:(id_).get? b=some o):h.get? b=some o/\H b=none:=by
 have e':h.get? b=some o:=W.of_hideAll (DK h H) e;refine⟨e',?_⟩;cases q:H b with
 |none=>rfl
 |some x=>
  have hm:b∈DK h H:=KM.mpr ⟨NY.mpr (IY e'),by simp[q]⟩;have z:(id_).get? b=none:=W.hideAll_none (DK h H) hm;rw[z]at e;cases e
def Ze(g h:Heap)(av:xz!):List eF!:=(qL_).filterMap λa=>if a=av\/(g.get? a).isSome=true then none else(h.get? a).map λo=>(a,o)
nonrec def rest(g h:Heap)(av d:xz!):List eF!:=(Ze g h av).filter λp=>decide (p.1≠d)
end L2
namespace L2
open PySem PySem.Spec PyProof.Rows
structure Mod(K:xB!)(mg:y_)(base:Heap):Prop where
 kin:K.In base
 glob:base.Ns mainGlobals mg
 blt:∃mb,base.Ns builtinsNs mb/\∀x:Str,x≠"__name__"->mb x=bootBuiltins x
 nolimit:base.NoLimit
structure Cx where
 prog:Program
 w:World
 K:W.Frag
 mg:Str->Option Value
 base:Heap
 A:Around
 N:List Str
 s₀:Shared
 H₀:Hp
 env:Env
 outer:List Env
 stack:List Env
 ex:List Addr
 fn:Str->Bool
 calm:Bool
 pn:List eF!
 xe:Value->Shared->Prop
nonrec def frs(l:aw_):List Addr:=l.filterMap (·.frame)
abbrev Cx.fs(X:Cx):List Addr:=frs X.outer
def Yb(sc:Scope)(x:Str):Prop:=sc.names.lookup x=some .local\/sc.names.lookup x=some .cell\/sc.names.lookup x=some .free
def Wx(sc:Scope)(x:Str):Prop:=sc.names.lookup x=some .local\/sc.names.lookup x=some .cell
def FP(env:Env)(h:Heap)(m:y_)(x:Str)(u:x6!):Prop:=
 (env.kindOf x=some .local/\m x=some u)\/((env.kindOf x=some .cell\/env.kindOf x=some .free)/\∃c,env.cells.lookup x=some c/\h.IsCell c (some u))
structure Cx.Ok(X:Cx):Prop where
 mod:Mod X.K X.mg X.base
 kind:lJ!=.function
 glob:X.env.globals=mainGlobals
 blt:X.env.builtins=builtinsNs
 above:dG!<=X.env.locals
 inj:∀x y c,X.env.cells.lookup x=some c->X.env.cells.lookup y=some c->x=y
 has:∀x,qO_->∃c,X.env.cells.lookup x=some c
 cab:∀x c,X.fn x=true->X.env.cells.lookup x=some c->dG!<=c
 hd:X.calm=true->X.A.handled=none
 frames:X.A.frames=some X.stack
 stk:X.stack=X.outer\/(X.stack=X.env::X.outer/\X.env.frame=some X.env.locals)
 exf:∀b∈X.ex,b≠X.env.locals/\∀x c,X.env.cells.lookup x=some c->c≠b
 bs:∀b o,X.base.get? b=some o->X.s₀.heap.get? b=some o/\X.H₀ b=none
 bsz:X.base.objs.size<=dG!
 noex:∀b o,X.base.get? b=some o->b∉X.ex
 exfs:∀b∈X.ex,b∉X.fs
 funs:X.s₀.heap.FunFrames X.base X.outer
 frf:∀b∈X.fs,X.H₀ b=none
structure Inv(X:Cx)(J:n_)(Z:List (Option V))(H:Hp)(s:xA!):Prop where
 ok:X.Ok
 os:s.os=X.s₀.os
 bare:AllBare s.gens
 base:Un X.fs X.ex X.H₀ H X.s₀.heap s.heap
 loc:∃m,s.heap.Ns X.env.locals m/\∀(i:Nat) (x:Str) (v:V),X.N[i]?=some x->Z[i]?=some dG_->Yb X.env.scope x->∃u,Bs v u/\FP X.env s.heap m x u
 cell:∀x c,X.env.cells.lookup x=some c->∃v,s.heap.IsCell c v
 free:H X.env.locals=none
 freeC:∀x c,X.env.cells.lookup x=some c->H c=none
 pin:∀p∈X.pn++J,s.heap.get? p.1=some p.2/\H p.1=none/\p.1≠X.env.locals/\p.1∉X.fs/\∀v,p.2.data≠.cell v
 hok:Om X.prog X.w H s.heap
 len:f4!=X.N.length
section
variable{X:Cx}{J:List (Addr×Obj)}{Z:List (Option V)}{H H':Hp}{s:xA!}{h':Heap}
def Cx.Ok.nofr(ok:X.Ok){b:xz!}{o:Obj}(e:X.base.get? b=some o):b∉X.fs:=λhb=>by
 have:=(ok.funs.mem hb).1;rw[e]at this;cases this
def Inv.bs(I:d!):∀b o,X.base.get? b=some o->s.heap.get? b=some o/\H b=none:=λb o e=>
 ⟨I.base.keep b o (ie!).1 (ie!).2 (I.ok.nofr e) qP_,I.base.free b o (ie!).1 (ie!).2 qP_⟩
def Inv.bk(I:d!):∀b o,X.base.get? b=some o->s.heap.get? b=some o:=λb o e=>(I.bs b o e).1
def Inv.mod(I:d!):Mod X.K X.mg X.base:=I.ok.mod
def Inv.kIn(I:d!):X.K.In s.heap:=I.ok.mod.kin.keeps I.bk
def Inv.lt(I:d!):X.env.locals<q_:=let⟨_,hn,_⟩:=I.loc;hn.lt
def Inv.sz(I:d!):dG!<=q_:=JD I.ok.above (NC I.lt)
def Inv.nofs(I:d!){a:xz!}(h:q_<=a):a∉X.fs:=λhb=>by
 obtain⟨_,o,ho,_⟩:=I.ok.funs.mem hb;exact absurd (IV ie_ (JD I.sz h)) dF_
def Inv.cne(I:d!):∀x c,X.env.cells.lookup x=some c->c≠X.env.locals:=λx c e z=>by
 obtain⟨v,o,ho,hd⟩:=I.cell x c e;obtain⟨m,⟨o',es,ep,de,lb,_⟩,_⟩:=I.loc;rw[z,de]at ho;cases ho;rw[lb]at hd;cases hd
def Inv.funs(I:d!):s.heap.FunFrames X.base X.outer:=by
 have all:∀(l:aw_),(∀b∈frs l,b∈X.fs)->X.s₀.heap.FunFrames X.base l->s.heap.FunFrames X.base l:=by
  intro l
  induction l with
  |nil=>intro _ _;trivial
  |cons env r ih=>
   intro hs hl;obtain⟨hk,⟨av,o,hf,hn,ho,hd⟩,L⟩:=hl;have hL:av∈X.fs:=hs av (by unfold frs;rw[QX,hf];exact HV);obtain⟨sl,e⟩:=I.base.slot av o ho (I.ok.frf av hL) hL λz=>I.ok.exfs av z hL
   exact⟨hk,⟨av,_,hf,hn,e,hd⟩,ih (λb hb=>hs b (by unfold frs;rw[QX,hf];exact HP _ hb)) L⟩
 exact all X.outer (λ_ hb=>hb) I.ok.funs
def Inv.stack(I:d!):s.heap.FunFrames X.base X.stack:=by
 obtain e|⟨e,hf⟩:=I.ok.stk
 .rw[e];exact I.funs
 .rw[e];obtain⟨m,hn,_⟩:=I.loc;refine .cons (by rw[I.ok.kind];decide) hf hn ?_ I.funs;exact Heap.get?_none_of_le (JD I.ok.bsz I.ok.above)
def Inv.stkSub(I:d!):∀b∈frs X.stack,b∈X.env.locals::X.fs:=λb hb=>by
 obtain e|⟨e,hf⟩:=I.ok.stk
 .rw[e]at hb;exact HP _ hb
 .rw[e]at hb;unfold frs at hb;rw[QX,hf]at hb;exact hb
def Inv.stkFree(I:d!):∀b∈frs X.stack,H b=none:=λb hb=>by
 obtain e|hb:=HQ.mp (I.stkSub b hb)
 .rw[e];exact I.free
 .obtain⟨_,o,ho,_⟩:=I.ok.funs.mem hb;exact I.base.free b o ho (I.ok.frf b hb) λz=>I.ok.exfs b z hb
def Inv.step{g':qR!}{t':Nat}{d':Drawn}{ch:aw!}(I:d!)
  (jd:∀b∈ch,if_/\b≠X.env.locals/\if!/\∀p∈X.pn++J,p.1≠b)
  (keep:∀b o,b≠X.env.locals->b∉X.fs->b∉ch->s.heap.get? b=some o->H b=none->h'.get? b=some o)
  (slot:∀b o,b≠X.env.locals->b∈X.fs->b∉ch->s.heap.get? b=some o->H b=none->∃sl,h'.get? b=some {o with slots:=sl})(free:∀b o,b∉ch->s.heap.get? b=some o->H b=none->H' b=none)
  (there:∀b o,b∉ch->s.heap.get? b=some o->∃o',h'.get? b=some o')
  (tups:qF!)(frzs:∀b o u,H b=some f2_->H' b=some f2_)(tbls:∀b ps,H b=some (.tbl ps)->∃pi,H' b=some qI_)
  (ns:∀m,s.heap.Ns X.env.locals m->h'.Ns X.env.locals m)(hok:lL_)(hg:AllBare g'):
  Inv X J Z H' {s with heap:=h',gens:=g',drawn:=d',toks:=t'}:=by
 have TQ:∀b o,X.s₀.heap.get? b=some o->b≠X.env.locals:=λb o e=>JK qS!;have vg:∀b o,X.s₀.heap.get? b=some o->b∉X.ex->b∉ch:=λb o e O hb=>by
  obtain z|z:=(jd b hb).1
  .exact O z
  .exact absurd (IV cU! z) dF_
 have TR:∀x c,X.env.cells.lookup x=some c->∀v,s.heap.IsCell c v->h'.IsCell c v:=λx c e v ⟨o,ho,hd⟩=>by
  have rg:c∉ch:=λz=>(jd c z).2.2.1 x c e rfl;by_cases hc:c∈X.fs
  .obtain⟨sl,q⟩:=slot c o (I.cne x c e) hc rg ho lM!;exact⟨_,q,hd⟩
  .exact⟨o,keep c o (I.cne x c e) hc rg ho lM!,hd⟩
 refine⟨I.ok,I.os,hg,⟨ig!,ig!,λb o e n O=>?_,to_,λb xs e=>tups b xs (I.base.tups b xs e),λb o xs e=>frzs b o xs (I.base.frzs b o xs e),λb ps e=>?_⟩,?_,lM_,?_,lM_,eH!,hok,I.len⟩
 .exact keep b o (TQ b o e) hb ig_ lN! lN_
 .show"!W";obtain⟨XW,e2⟩:=slot b _ (TQ b o e) hb ig_ e1 lN_;exact⟨XW,e2⟩
 .show"!B";exact free b o' ig_ e1 lN_
 .show"!B";exact there b o' ig_ e1
 .obtain⟨m1,e1⟩:=I.base.tbls b ps e;obtain⟨m2,e2⟩:=tbls b _ e1;exact⟨m1++m2,by rw[e2,Array.append_assoc]⟩
 .obtain⟨m,hn,hl⟩:=I.loc;refine⟨m,ns m hn,qV_⟩;obtain⟨u,r,l⟩:=hl i x v e1 e2 e3;refine⟨u,r,?_⟩;obtain l|⟨k,c,e,z⟩:=l
  .exact .inl l
  .exact .inr ⟨k,c,e,TR x c e _ z⟩
 .obtain⟨v,z⟩:=I.cell x c e;exact⟨v,TR x c e v z⟩
 .obtain⟨m,⟨o,_,_,ho,_⟩,_⟩:=I.loc;exact free _ o (λz=>(jd _ z).2.1 rfl) ho I.free
 .obtain⟨v,o,ho,hd⟩:=I.cell x c e;exact free c o (λz=>(jd c z).2.2.1 x c e rfl) ho lM!
 .show"!{";have rg:p.1∉ch:=λz=>(jd p.1 z).2.2.2 p hp rfl;exact⟨keep p.1 p.2 ne nf rg e n,free p.1 p.2 rg e n,ne,nf,d⟩
def Inv.un{t':Nat}(I:d!)(u:Un X.fs [] H H' s.heap h')(hok:lL_):Inv X J Z H' {s with heap:=h',toks:=t'}:=by
 obtain⟨m,⟨o,es,ep,ho,r⟩,_⟩:=id I.loc;obtain⟨sl,hL⟩:=u.any ho I.free d_;exact I.step (g':=s.gens) (d':=s.drawn) (ch:=[]) qY! (λb o _ hb _ e n=>u.keep b o e n hb d_) (λb o _ hb _ e n=>u.slot b o e n hb d_) (λb o _ e n=>u.free b o e n d_) (λb o _ e=>u.there b o e d_) u.tups u.frzs u.tbls (λm' hm=>by
  obtain⟨o',au,ay,de,r'⟩:=hm;rw[ho]at de;cases de;exact qZ!) hok I.bare
def Inv.call{g':qR!}{t':Nat}{d':Drawn}{ch:aw!}(I:d!)(u:Un (frs X.stack) ch H H' s.heap h')(hok:lL_)(hg:AllBare g')
  (jd:∀b∈ch,if_/\b≠X.env.locals/\if!/\∀p∈X.pn++J,p.1≠b):
  Inv X J Z H' {s with heap:=h',gens:=g',drawn:=d',toks:=t'}:=by
 obtain⟨m,⟨o,es,ep,ho,r⟩,_⟩:=id I.loc;obtain⟨sl,hL⟩:=u.any ho I.free λz=>(jd _ z).2.1 rfl
 exact I.step (ch:=ch) jd (λb o hL hb hc e n=>u.keep b o e n (λz=>(HQ.mp (I.stkSub b z)).elim hL hb) hc) (λb o _ _ hc e n=>u.any e n hc) (λb o hc e n=>u.free b o e n hc) (λb o hc e=>u.there b o e hc) u.tups u.frzs u.tbls (λm' hm=>by
  obtain⟨o',au,ay,de,r'⟩:=hm;rw[ho]at de;cases de;exact qZ!) hok hg
def Inv.turned{t':Nat}(I:d!)(k:∀b o,b≠it->s.heap.get? b=some o->h'.get? b=some o)(hn:H it=none)(hL:it≠X.env.locals)
  (B:it∈X.ex\/dG!<=it)(Y:∀x c,X.env.cells.lookup x=some c->c≠it)(h3:∀p∈X.pn++J,p.1≠it):Inv X J Z H {s with heap:=h',toks:=t'}:=by
 have pj:∀b u,H b=some u->b≠it:=λb u e z=>by rw[z,hn]at e;cases e
 refine I.step (g':=s.gens) (d':=s.drawn) (ch:=[it]) ii! (λb o _ _ hc e _=>k b o lR! e) (λb o _ _ hc e _=>⟨o.slots,k b o lR! e⟩) ii_
  (λb o hc e=>⟨o,k b o lR! e⟩) ij! ij_ (λb ps e=>q3_) ik! q4_ I.bare
 .have e:b=it:=by simpa using hb
  subst e;exact⟨B,hL,Y,h3⟩
 .obtain⟨o,es,ep,ho,r⟩:=hm;exact⟨o,es,ep,k _ o (HY hL) ho,r⟩
 .refine(I.hok b u e).stay (λc v hc q=>k c v ?_ q) lE_ λ_ _ q=>q;obtain z|z:=hc
  .rw[z];exact pj b u e
  .exact pj c _ z
def Inv.tok(I:d!)(t:Nat):Inv X J Z H {s with toks:=t}:=I.un (h':=s.heap) (t':=t) Un.refl I.hok
def Inv.kept{t':Nat}(I:d!)(k:q5_):Inv X J Z H {s with heap:=h',toks:=t'}:=I.un (Un.kept k) (I.hok.kept k)
def Inv.laid{a:xz!}{o:HO}{t':Nat}(I:d!)(k:q5_)(hp:q_<=a)(new:Fb X.prog X.w cT_ h' a o):
  Inv X J Z cT_ {s with heap:=h',toks:=t'}:=I.un (Un.laid k hp (I.hok.fresh hp)) (I.hok.laid k hp new)
def Inv.write{x e:xz!}{o:HO}{t':Nat}(I:d!)(mu:CW (H x))(he:lF!)(k:∀b u,b≠e->s.heap.get? b=some u->h'.get? b=some u)(ph:lF_)
  (new:Fb X.prog X.w lH! h' x o):Inv X J Z lH! {s with heap:=h',toks:=t'}:=I.un (Un.write mu he k ph) (I.hok.write mu he k ph new)
def Inv.pins_of{TU:n_}(I:d!)(h:∀p∈TU,s.heap.get? p.1=some p.2/\H p.1=none/\p.1≠X.env.locals/\p.1∉X.fs/\∀v,p.2.data≠.cell v):Inv X TU Z H s:=
 ⟨I.ok,I.os,I.bare,I.base,I.loc,I.cell,I.free,I.freeC,λp hp=>(HU.mp hp).elim (λz=>I.pin p (IS _ z)) (h p),I.hok,I.len⟩
def a6d{N:p!}(hN:N.Nodup){i j:Nat}{x:Str}(a:N[i]?=some x)(b:N[j]?=some x):i=j:=by obtain⟨B,e1⟩:=IJ.mp a;obtain⟨Y,e2⟩:=IJ.mp b;exact(List.getElem_inj hN).mp q9!
def zA{M:Model}{A:x9!}{E:p_}{i:Nat}{x:Str}{v:V}{u:x6!}{Q:cV!}(I:d!)(hN:bx!)(hi:ap_)(O:bx_)(r:by!)
  (h:∀s',Inv X J eH_ H s'->(∃a,Heap.SameBut a s.heap s'.heap/\(a=X.env.locals\/X.env.cells.lookup x=some a))->Q () s')(hf:X.fn x=true\/X.env.scope.names.lookup x=some .local:=by first|exact .inl rfl|exact .inr rfl|assumption):wpAny M A ra! Q E s:=by
 obtain⟨m,hn,hl⟩:=id I.loc;have XX:(lJ!==.class||(lJ!==.module&&X.env.locals != X.env.globals))=false:=by rw[I.ok.kind];rfl
 have TV:i<f4!:=by rw[I.len];exact(IJ.mp hi).1
 have cne:=I.cne;have TW:∀{a:xz!} {h':Heap},(∃o,s.heap.get? a=some o/\H a=none)->Heap.SameBut a s.heap h'->Om X.prog X.w H h':=λ{a h'} ha hs b ob e=>by
  obtain⟨_,_,ie⟩:=ha;refine(I.hok b ob e).stay (λc w' hc q=>(hs.2 c ?_).trans q) lE_ λ_ _ q=>q;rintro rfl;obtain rfl|hc:=hc
  .rw[ie]at e;cases e
  .rw[ie]at hc;cases hc
 obtain hk|hk:=O
 .refine wpAny_storeName_local hk hn (λh' vh hs=>?_) XX;obtain⟨oL,_,_,lf,_⟩:=id hn;refine h _ ⟨I.ok,I.os,I.bare,rb!,⟨_,vh,rb_⟩,λy c e=>?_,I.free,I.freeC,eH!,TW ⟨oL,lf,I.free⟩ hs,rc_⟩ ⟨_,hs,cY!⟩
  .exact(lV_).trans lN!
  .show"!W";exact⟨sl,(lV_).trans e1⟩
  .show"!B";exact⟨o',(lV_).trans e1⟩
  .by_cases hj:j=i
   .show"#-";exact⟨u,r,.inl ⟨hk,G_⟩⟩
   .rw[JH (HY hj)]at e2;obtain⟨u',r',q⟩:=hl j y v' e1 e2 e3;refine re_;obtain⟨k,e⟩|⟨k,c,e,z⟩:=q
    .refine .inl ⟨k,?_⟩;have:y≠x:=λe=>hj (a6d hN e1 (e▸hi));simp[this,e]
    .exact .inr ⟨k,c,e,rf_⟩
  .obtain⟨w',z⟩:=I.cell y c e;exact⟨w',rf_⟩
  .show"!{";exact⟨(hs.2 p.1 ne).trans e,n,ne,nf,d⟩
 .have xv:X.fn x=true:=by
   obtain z|z:=hf
   .exact z
   .rw[z]at hk;cases hk
  obtain⟨c,hc⟩:=I.ok.has x (.inl hk);obtain⟨w',z⟩:=I.cell x c hc;refine wpAny_storeName_cell I.ok.kind hk hc z (λh' bu hs=>?_);obtain⟨oc,TX,XY⟩:=id z;refine h {s with heap:=h'} ⟨I.ok,I.os,I.bare,rb!,⟨m,hn.sameBut hs (HY (cne x c hc)),rb_⟩,λy c' e=>?_,I.free,I.freeC,eH!,TW ⟨oc,TX,I.freeC x c hc⟩ hs,rc_⟩ ⟨c,hs,.inr hc⟩
  .exact(lZ!).trans lN!
  .show"!W";exact⟨sl,(lZ!).trans e1⟩
  .show"!B";exact⟨o',(lZ!).trans e1⟩
  .by_cases hj:j=i
   .show"#-";exact⟨u,r,.inr ⟨.inl hk,c,hc,bu⟩⟩
   .rw[JH (HY hj)]at e2;obtain⟨u',r',q⟩:=hl j y v' e1 e2 e3;refine re_;obtain q|⟨k,c',e,z'⟩:=q
    .exact .inl q
    .refine .inr ⟨k,c',e,z'.sameBut hs ?_⟩;rintro rfl;exact hj (a6d hN e1 (I.ok.inj _ _ _ e hc▸hi))
  .by_cases j0:c'=c
   .subst j0;exact⟨_,bu⟩
   .obtain⟨w2,z2⟩:=I.cell y c' e;exact⟨w2,z2.sameBut hs j0⟩
  .show"!{";refine⟨(hs.2 p.1 ?_).trans e,n,ne,nf,d⟩;intro q;rw[q,TX]at e;have q':oc=p.2:=JN e;exact d w' (by rw[<-q'];exact XY)
def vE{M:Model}{A:x9!}{E:p_}{i:Nat}{x:Str}{v:V}{u:x6!}{Q:cV!}(I:d!)(hN:bx!)(hi:ap_)(O:bx_)(r:by!)
  (h:∀s',Inv X J eH_ H s'->Q () s')(hf:X.fn x=true\/X.env.scope.names.lookup x=some .local:=by first|exact .inl rfl|exact .inr rfl|assumption):wpAny M A ra! Q E s:=
 zA I hN hi O r (λs' I' _=>h s' I') hf
def Inv.call'{s':xA!}{ch:aw!}(I:d!)(ho:s'.os=s.os)(u:Un (frs X.stack) ch H H' s.heap s'.heap)(hok:Om X.prog X.w H' s'.heap)(hg:AllBare s'.gens)
  (jd:∀b∈ch,if_/\b≠X.env.locals/\if!/\∀p∈X.pn++J,p.1≠b):Inv X J Z H' s':=by
 obtain⟨h',g',d',t',o'⟩:=s';have e:o'=s.os:=ho;subst e;exact I.call (g':=g') (t':=t') (d':=d') u hok hg jd
end
abbrev XK:=Value->Option Addr->Hp->Prop
abbrev St:=List (Option V)
abbrev VK:=V->Hp->Prop
abbrev TE:=St->Hp->VK->Prop
abbrev TT:=St->Hp->rn!->Prop
abbrev TA:=St->Hp->(List V->Hp->Prop)->Prop
structure Vs where
 nx:St->Hp->Prop
 rt:VK
 bk:St->Hp->Prop:=λ_ _=>False
 ct:St->Hp->Prop:=λ_ _=>False
abbrev TS:=Vs->St->Hp->Prop
inductive EP(X:Cx)(J:n_)(Z:St)(Q:VK)(u:x6!)(s':xA!):Prop
 |mk (v:V) (H':Hp) (I:l2!) (r:by!) (q:Q v H'):EP X J Z Q u s'
inductive TP(X:Cx)(J:n_)(Z:St)(Q:dI!)(b:Bool)(s':xA!):Prop
 |mk (H':Hp) (I:l2!) (q:Q b H'):TP X J Z Q b s'
inductive AP(X:Cx)(J:n_)(Z:St)(Q:cZ!)(us:i!)(s':xA!):Prop
 |mk (vs:l_) (H':Hp) (I:l2!) (r:eK!) (q:Q vs H'):AP X J Z Q us s'
def SP(X:Cx)(J:n_)(D:Vs)(f:Flow)(s':xA!):Prop:=
 match f with
 |.next=>∃σ H',Inv X J σ H' s'/\D.nx σ H'
 |.brk=>∃σ H',Inv X J σ H' s'/\D.bk σ H'
 |.cont=>∃σ H',Inv X J σ H' s'/\D.ct σ H'
 |.ret u=>∃v σ H',Inv X J σ H' s'/\Bs v u/\D.rt v H'
def PE(X:Cx)(e:Expr)(t:TE):Prop:=
 ∀(J:n_) (s:xA!) (Z:St) (H:Hp) (Q:VK),Inv X J Z H s->t Z H Q->wpAny e_ X.A eJ_ aN! X.xe s
def PT(X:Cx)(e:Expr)(t:TT):Prop:=
 ∀(J:n_) (s:xA!) (Z:St) (H:Hp) (Q:dI!),Inv X J Z H s->t Z H Q->wpAny e_ X.A (isTrue e X.env eJ_) ip! X.xe s
def PW(X:Cx)(e:Expr)(t:TT):Prop:=
 ∀(dq:Sem Value) (J:n_) (s:xA!) (Z:St) (H:Hp) (Q:dI!),Inv X J Z H s->t Z H Q->wpAny e_ X.A (isTrue e X.env dq) ip! X.xe s
def PW.pt{X:Cx}{e:Expr}{t:TT}(h:PW X e t):PT X e t:=h _
def PA(X:Cx)(es:bM!)(t:TA):Prop:=
 ∀(pos:Pos) (J:n_) (s:xA!) (Z:St) (H:Hp) (Q:cZ!),Inv X J Z H s->t Z H Q->wpAny e_ X.A (spliced ro!) (AP X J Z Q) X.xe s
def PS(X:Cx)(st:Stmt)(t:TS):Prop:=
 ∀(J:n_) (s:xA!) (Z:St) (H:Hp) (D:Vs),Inv X J Z H s->t D Z H->wpAny e_ X.A (exec st X.env) (SP X J D) X.xe s
def Uv(X:Cx)(st:b6!)(t:TS):Prop:=
 ∀(J:n_) (s:xA!) (Z:St) (H:Hp) (D:Vs),Inv X J Z H s->t D Z H->wpAny e_ X.A (execs st X.env) (SP X J D) X.xe s
def dO{α:Type}{t:Sem α}{Q Q':ro_}{M:Model}{A:x9!}{E:p_}{s:xA!}(h:wpAny M A t Q E s)(hQ:∀a s,Q a s->Q' a s):wpAny M A t Q' E s:=KS h hQ λ_ _ x=>x
end L2
namespace L2
open PySem PySem.Spec PyProof.Rows
section
variable{X:Cx}
def bin{a b:Expr}{ta tb:TE}(ha:a5!)(hb:cw!){J:n_}{s:xA!}{Z:St}{H:Hp}{R:rp_}(I:d!)(h:rp!)
  {α:Type}{Q:ro_}{f:Value->Value->Sem α}
  (hf:rq!):
  wpAny e_ X.A l3! rr! X.xe s:=by
 show"!8"
def EE(i:Nat):TE:=λZ H Q=>∃v,Z[i]?=some dG_/\Q v H
nonrec def tC(v:V):TE:=λ_ H Q=>Q v H
def oO{i:Nat}{x:Str}{pos:Pos}(hN:ap_)(hv:c0!)(hd:H!:=by decide)(b6:c0_:=by decide):PE X c1! (EE i):=by
 intro J s Z H Q I h;obtain⟨v,e,h⟩:=h;obtain⟨m,hn,hl⟩:=I.loc;obtain⟨u,r,l⟩:=hl i x v hN e hv;have fin:EP X J Z Q u s:=l3_;obtain⟨hk,hm⟩|⟨hk,c,hc,ce⟩:=l
 .exact wpAny_Name (wpAny_loadName_local I.ok.kind hk hn hm fin) hd
 .obtain hk|hk:=hk
  .exact wpAny_Name (wpAny_loadName_cell I.ok.kind hk hc ce fin) hd
  .exact wpAny_Name (wpAny_loadName_free I.ok.kind hk hc ce fin b6) hd
def c7i {i j pos}:PE X rs_ (tC by_):=λ_ _ _ H _ I h=>wpAny_Constant_int ⟨b7!,H,a5_,I_,h⟩
def d0u {b j pos}:PE X (.Constant l4! j pos) (tC bM_):=λ_ _ _ H _ I h=>Constant_bool ⟨.bl b,H,I,rfl,h⟩
def c7h {j pos}:PE X rt_ (tC .non):=λ_ _ _ H _ I h=>Constant_none ⟨.non,H,I,rfl,h⟩
def b8c {x j pos}:PE X (.Constant dK! j pos) (tC dK!):=λ_ _ _ H _ I h=>Calls.Constant_str ⟨.str x,H,a5_,I_,h⟩
def Gl(X:Cx)(x:Str):Prop:=X.env.kindOf x=some .globalImplicit
def kQ{E:p_}{J:n_}{s:xA!}{Z:St}{H:Hp}{x:Str}{u:x6!}{pos:Pos}{Q:p_}(I:d!)(hg:X!)(hm:X.mg x=some u)(h:Q u s)
  (hd:H!:=by decide):wpAny e_ X.A ru_ Q E s:=
 Calls.Name_function_global I.ok.kind hg (Calls.loadGlobal_global rv! hm h) hd
def mG{E:p_}{J:n_}{s:xA!}{Z:St}{H:Hp}{x:Str}{u:x6!}{pos:Pos}{Q:p_}(I:d!)(hg:X!)(hm:c2!)(hv:rv_)(h:Q u s)
  (hn:c2_:=by decide)(hd:H!:=by decide):wpAny e_ X.A ru_ Q E s:=by
 obtain⟨mb,B,Y⟩:=I.mod.blt;exact Calls.Name_function_global I.ok.kind hg (Calls.loadGlobal_builtin rv! hm (by rw[I.ok.blt];exact B.keeps I.bk) ((Y x hn).trans hv) h) hd
def c3f{x:Str}{v:V}{u:x6!}{pos:Pos}(hg:X!)(hm:X.mg x=some u)(r:by!)(hd:H!:=by decide):PE X c1! (tC v):=
 λ_ _ _ H _ I h=>kQ I hg hm l3_ hd
def c3g{x:Str}{v:V}{u:x6!}{pos:Pos}(hg:X!)(hm:c2!)(hv:rv_)(r:by!)(hn:c2_:=by decide)(hd:H!:=by decide):PE X c1! (tC v):=
 λ_ _ _ H _ I h=>mG I hg hm hv l3_ hn hd
variable{a b:Expr}{ta tb:TE}{pos:Pos}
def PC(X:Cx)(op:CmpOp)(a b:Expr)(t:TE):Prop:=
 ∀(J:n_) (s:xA!) (Z:St) (H:Hp) (Q:VK),Inv X J Z H s->t Z H Q->
  wpAny e_ X.A l3! (λv aj=>wpAny e_ X.A rr_ (λu al=>wpAny e_ X.A (compareOp op v u) aN! X.xe al) X.xe aj) X.xe s
def b9b(b:Expr){op:CmpOp}(h:op≠.In)(Y:op≠.NotIn):behindInMarks op b=false:=by
 have e1:rx!=false:=by cases op<;>first|rfl|exact absurd rfl h
 have e2:rw!=false:=by cases op<;>first|rfl|exact absurd rfl Y
 cases b<;>simp[behindInMarks,e1,e2]
nonrec def tB(t:TE):TT:=λZ H Q=>t Z H λx H1=>∃c,x=.bl c/\Q c H1
def d2i{op:CmpOp}{t:TE}(h:PC X op a b t)(B:dK_:=by first|exact b9b _ c_ c_|rfl):PT X dL! (tB t):=by intro J s Z H Q I hw;refine QY (dO l5! λv s1 B=>dO B λu s2 Y=>dO Y λc s3 ⟨x,H1,I1,r1,q1⟩=>?_) B;obtain⟨d,rfl,q⟩:=q1;cases r1;exact JQ ⟨H1,I1,q⟩
def b7m{e:Expr}{t:TE}(h:is!)(he:is_:=by intro _;rfl):PT X e (tB t):=by intro J s Z H Q I hw;refine isTrue_plain (dO l5! λv s1 ⟨x,H1,I1,r1,q1⟩=>?_) (he _);obtain⟨d,rfl,q⟩:=q1;cases r1;exact JQ ⟨H1,I1,q⟩
variable{tA vi:TT}{rest:List Expr}
def EQ(t u:TT):TT:=λZ H Q=>t Z H λc H1=>if c=true then u Z H1 Q else Q false H1
def GV(t u:TT):TT:=λZ H Q=>t Z H λc H1=>if c=true then Q true H1 else u Z H1 Q
def EJ(t:TT):TT:=λZ H Q=>t Z H λc H1=>Q (!c) H1
def b1v(ha:gd_):PW X l6! tA:=by
 intro wh J s Z H Q I h;refine isTrue_and ry!;cases c with
 |true=>exact isTrue_and_nil e
 |false=>exact e
def b7f(ha:gd_):PW X l6_ tA:=by
 intro wh J s Z H Q I h;refine isTrue_or ry!;cases c with
 |false=>exact isTrue_or_nil e
 |true=>exact e
def b7g(ha:gd_)(hb:PW X eL! vi):PW X eL_ (EQ tA vi):=by
 intro wh J s Z H Q I h;refine isTrue_and rz!;cases c with
 |true=>exact hb wh J s1 Z H1 Q I1 q1
 |false=>exact rz_
def c5x(ha:gd_)(hb:PW X eM! vi):PW X eM_ (GV tA vi):=by
 intro wh J s Z H Q I h;refine isTrue_or rz!;cases c with
 |true=>exact rz_
 |false=>exact hb wh J s1 Z H1 Q I1 q1
def b7o(ha:gd_):PT X eN! (EJ tA):=by intro J s Z H Q I h;exact isTrue_not (dO (ha J s Z H (λc H1=>Q (!c) H1) I h) λ_ _ ⟨H2,I2,q⟩=>⟨H2,I2,q⟩)
def BS(ta tb:TE):TE:=λZ H Q=>ta Z H λx H1=>∃c,x=.bl c/\if c=true then tb Z H1 Q else Q X_ H1
def EI(ta tb:TE):TE:=λZ H Q=>ta Z H λx H1=>∃c,x=.bl c/\if c=true then Q C! H1 else tb Z H1 Q
def BN(ta:TE):TE:=λZ H Q=>ta Z H λx H1=>∃c,x=.bl c/\Q (.bl (!c)) H1
def b8f {op}{t:TE}(h:PE X a t):PE X l7! t:=λJ s Z H Q I hw=>BoolOp_one rB!
def b8l(ha:a5!)(hb:PE X eL! tb):PE X eL_ (BS ta tb):=by
 intro J s Z H Q I h;refine BoolOp_and l7_;obtain⟨c,rfl,q1⟩:=q1;cases r1;refine JQ ?_;cases c with
 |true=>exact hb J s1 Z H1 Q I1 q1
 |false=>exact⟨iu!,H1,I1,rfl,q1⟩
def c6a(ha:a5!)(hb:PE X eM! tb):PE X eM_ (EI ta tb):=by
 intro J s Z H Q I h;refine BoolOp_or l7_;obtain⟨c,rfl,q1⟩:=q1;cases r1;refine JQ ?_;cases c with
 |false=>exact hb J s1 Z H1 Q I1 q1
 |true=>exact⟨dM!,H1,I1,rfl,q1⟩
def b8g(ha:a5!):PE X eN! (BN ta):=by intro J s Z H Q I h;refine UnaryOp_ l7_;obtain⟨c,rfl,q1⟩:=q1;cases r1;exact not_of (JQ ⟨.bl (!c),H1,I1,rfl,q1⟩)
def GW(t:TT)(ta tb:TE):TE:=λZ H Q=>t Z H λc H1=>if c=true then ta Z H1 Q else tb Z H1 Q
def a5t{c:Expr}(hc:PT X c tA)(ha:a5!)(hb:cw!):PE X l8_ (GW tA ta tb):=by
 intro J s Z H Q I h;refine wpAny_IfExp rB_;cases d with
 |true=>exact ha J s1 Z H1 Q I1 q1
 |false=>exact hb J s1 Z H1 Q I1 q1
end
end L2
namespace L2
open PySem PySem.Spec PyProof.Rows
def Fn(K:xB!)(H:Hp)(a:xz!)(xs:l_):Prop:=
 Rd H a R!\/
  ∃(o:Obj) (its:W!) (n:Nat),K.lookup a=some o/\o.cls=.type "list"/\o.dict=none/\o.data=.seq its n/\its.size<=sizeLine/\Bc xs iu_
def Gc(K:xB!)(H:Hp)(a:xz!)(xs:l_):Prop:=
 Rd H a bJ_\/
  ∃(o:Obj) (its:W!) (n:Nat),K.lookup a=some o/\o.cls=.type "tuple"/\o.data=.seq its n/\its.size<=sizeLine/\Bc xs iu_
def FK:Value->Option V
 |.none=>some .non
 |.bool b=>some bM_
 |.int i _=>some by_
 |.str x _=>some dK!
 |.bytes b _=>some (.byt b)
 |.float b _=>some (.flt b)
 |.ref a=>some ae!
 |.type n=>some (.ty n)
 |_=>none
def Bs.abs{x:V}{u:x6!}(r:Bs x u):FK u=some x:=by
 cases x with
 |non=>cases r;rfl
 |bl _=>cases r;rfl
 |int _=>obtain⟨t,rfl⟩:=r;rfl
 |str _=>obtain⟨t,rfl⟩:=r;rfl
 |byt _=>obtain⟨t,rfl⟩:=r;rfl
 |flt _=>obtain⟨t,rfl⟩:=r;rfl
 |ref _=>cases r;rfl
 |ty _=>cases r;rfl
def Bs.inj{x y:V}{u:x6!}(r:Bs x u)(q:Bs y u):x=y:=JN (r.abs.symm.trans q.abs)
def Bc.inj:∀{xs ys:l_} {us:i!},Bc xs us->Bc ys us->xs=ys
 |_,_,_,.nil,.nil=>rfl
 |_,_,_,.cons r t,.cons r' t'=>by rw[r.inj r',Bc.inj t t']
section
variable{X:Cx}{J:List (Addr×Obj)}{Z:St}{H:Hp}{s:xA!}{a:xz!}{xs ys:List V}
def Fn.of{K:xB!}(h:H a=some R!):Fn K H a xs:=.inl iv!
def Gc.of{K:xB!}(h:H a=some bJ_):Gc K H a xs:=.inl iv!
def Inv.list(I:d!)(h:Fn X.K H a xs):∃its:List Value,Bc xs its/\PlainL s.heap a be!/\k_<=sizeLine:=by
 obtain h|⟨o,its,n,hk,hc,hd,hs,hz,r⟩:=h
 .obtain⟨z,its,n,r,e⟩:=h.ok I.hok;exact⟨its,r,⟨_,n,e,rfl,rfl,rfl⟩,z⟩
 .refine⟨iu_,r,⟨o,n,I.kIn a o hk,hc,hd,rC!⟩,?_⟩;have e:=aN_;simp only[JV]at e;omega
def Inv.tuple(I:d!)(h:Gc X.K H a xs):∃its:List Value,Bc xs its/\IsTup s.heap a be!/\k_<=sizeLine:=by
 obtain h|⟨o,its,n,hk,hc,hs,hz,r⟩:=h
 .obtain⟨z,its,r,p⟩:=h.ok I.hok;exact⟨its,r,p,z⟩
 .refine⟨iu_,r,⟨o,I.kIn a o hk,hc,n,rC!⟩,?_⟩;have e:=aN_;simp only[JV]at e;omega
def Inv.list_inj(I:d!)(h:Fn X.K H a xs)(h':Fn X.K H a ys):xs=ys:=by
 obtain⟨its,r,⟨o,n,e,_,_,d⟩,_⟩:=I.list h;obtain⟨its',r',⟨o',n',e',_,_,d'⟩,_⟩:=I.list h';rw[e]at e';cases e';rw[d]at d';injection d' with d1 _
 have:its=its':=by simpa using congrArg Array.toList d1
 subst this;exact r.inj r'
def Inv.tuple_inj(I:d!)(h:Gc X.K H a xs)(h':Gc X.K H a ys):xs=ys:=by
 obtain⟨its,r,⟨o,e,_,n,d⟩,_⟩:=I.tuple h;obtain⟨its',r',⟨o',e',_,n',d'⟩,_⟩:=I.tuple h';rw[e]at e';cases e';rw[d]at d';injection d' with d1 _
 have:its=its':=by simpa using congrArg Array.toList d1
 subst this;exact r.inj r'
end
abbrev Cx.wish(X:Cx)(E:p_):Cx:={X with xe:=E}
abbrev Cx.nox(X:Cx):Cx:=X.wish λ_ _=>False
def Cx.Ok.wish{X:Cx}(ok:X.Ok)(E:p_):(gf!).Ok:=
 rD_
def Cx.Ok.unwish{X:Cx}{E:p_}(ok:(gf!).Ok):X.Ok:=
 rD_
section
variable{X:Cx}{J:List (Addr×Obj)}{Z:St}{H:Hp}{s:xA!}{E:Value->Shared->Prop}
def Inv.wish(I:d!)(E:p_):Inv gf! J Z H s:=⟨I.ok.wish E,I.os,I.bare,I.base,I.loc,I.cell,I.free,I.freeC,I.pin,I.hok,I.len⟩
def Inv.unwish(I:Inv gf! J Z H s):Inv X J Z H s:=⟨I.ok.unwish,I.os,I.bare,I.base,I.loc,I.cell,I.free,I.freeC,I.pin,I.hok,I.len⟩
def SP.unwish{D:Vs}{f:Flow}{s':xA!}(h:SP gf! J D f s'):SP X J D f s':=by
 cases f with
 |next=>obtain⟨σ,H',I,q⟩:=h;exact ma!
 |brk=>obtain⟨σ,H',I,q⟩:=h;exact ma!
 |cont=>obtain⟨σ,H',I,q⟩:=h;exact ma!
 |ret u=>obtain⟨v,σ,H',I,r,q⟩:=h;exact⟨v,σ,H',I.unwish,r,q⟩
def Uv.nox{st:b6!}{t:TS}(h:Uv X.nox st t):Uv X st t:=λJ s Z H D I hw=>
 KS (h J s Z H D (I.wish _) hw) (λ_ _ q=>q.unwish) λ_ _ z=>False.elim z
end
section
variable{X:Cx}{st:Stmt}{rest:List Stmt}{t u:TS}{e:Expr}{te:TE}{pos:Pos}
def BO:TS:=λD Z H=>D.nx Z H
def EG(t u:TS):TS:=λD Z H=>t {D with nx:=u D} Z H
def b1y:Uv X [] BO:=λ_ _ Z H _ I h=>RA ⟨Z,H,I,h⟩
def a5p(B:iv_)(Y:Uv X rest u):Uv X mb! (EG t u):=by
 intro J s Z H D I h;refine wpAny_execs_cons (dO (B J s Z H {D with nx:=u D} I h) λf s1 q=>?_);cases f with
 |next=>
  obtain⟨σ,H',I',q⟩:=q;exact Y J s1 σ H' D I' q
 |ret v=>exact q
 |brk=>exact q
 |cont=>exact q
def b1x(B:iv_):Uv X [st] t:=by
 intro J s Z H D I h;refine wpAny_execs_cons (dO (B J s Z H D I h) λf s1 q=>?_);cases f with
 |next=>exact RA q
 |ret v=>exact q
 |brk=>exact q
 |cont=>exact q
def Inv.quiet{J:n_}{Z:St}{H:Hp}{s:xA!}(I:d!):interactive X.env=false:=by simp[interactive,I.ok.kind]
def BP(te:TE):TS:=λD Z H=>te Z H λ_ H1=>D.nx Z H1
def uK(he:cx!)(hs:rH_:=by rfl):PS X (.Expr e pos) (BP te):=by intro J s Z H D I h;exact wpAny_Expr_any (dO c4_ λv s1 ⟨x,H1,I1,r1,q1⟩=>⟨Z,H1,I1,q1⟩) I.quiet hs
def EH(te:TE):TS:=λD Z H=>te Z H D.rt
def b7r(he:cx!):PS X mb_ (EH te):=by intro J s Z H D I h;exact wpAny_Return_some (dO c4_ λv s1 ⟨x,H1,I1,r1,q1⟩=>⟨x,Z,H1,I1,r1,q1⟩)
def BL:TS:=λD _ H=>D.rt .non H
def c2x:PS X rI! BL:=λ_ _ Z H _ I h=>wpAny_Return_none ⟨.non,Z,H,I,rfl,h⟩
def EL(c:TT)(t u:TS):TS:=λD Z H=>c Z H λb H1=>if b=true then t D Z H1 else u D Z H1
def c5y{c:Expr}{a b:b6!}{tc:TT}(hc:PT X c tc)(ha:Uv X a t)(hb:Uv X b u):PS X (.If c a b pos) (EL tc t u):=by
 intro J s Z H D I h;refine wpAny_If rB_;cases d with
 |true=>exact ha J s1 Z H1 D I1 q1
 |false=>exact hb J s1 Z H1 D I1 q1
end
abbrev TG:=V->St->Hp->wB!->Prop
abbrev AV:=List V->St->Hp->wB!->Prop
def PG(X:Cx)(vj:Expr)(t:TG):Prop:=
 ∀(J:n_) (s:xA!) (Z:St) (H:Hp) (v:V) (u:x6!) (Q:ix_),Inv X J Z H s->Bs v u->t v Z H Q->
  wpAny e_ X.A (assign vj X.env u) rI_ X.xe s
def DV(X:Cx)(ts:bM!)(t:AV):Prop:=
 ∀(J:n_) (s:xA!) (Z:St) (H:Hp) (vs:l_) (us:i!) (Q:ix_),Inv X J Z H s->Bc vs us->t vs Z H Q->
  wpAny e_ X.A (assignInOrder ((assignEach ts X.env).map C_) us) rI_ X.xe s
abbrev Zf:=V->V->V->Hp->mc!->Prop
def Wq(X:Cx)(t:Zf):Prop:=
 ∀(J:n_) (s:xA!) (Z:St) (H:Hp) (o i v:V) (ov iv u:x6!) (Q:Hp->Prop),Inv X J Z H s->Bs o ov->Bs i iv->Bs v u->t o i v H Q->
  wpAny e_ X.A (setItem ov iv u) (λ_ s'=>∃H',Inv X J Z H' s'/\Q H') X.xe s
abbrev DQ:=V->V->Hp->VK->Prop
def GL(X:Cx)(op:Operator)(t:DQ):Prop:=
 ∀(J:n_) (s:xA!) (Z:St) (H:Hp) (x y:V) (v u:x6!) (Q:VK),Inv X J Z H s->Bs x v->Bs y u->t x y H Q->
  wpAny e_ X.A (inplaceOp op v u) aN! X.xe s
section
variable{X:Cx}{pos:Pos}
def Oj(i:Nat):TG:=λv Z H Q=>Q eH_ H
def bH{i:Nat}{x:Str}(hN:bx!)(hi:ap_)(O:bx_)(hf:X.fn x=true\/X.env.scope.names.lookup x=some .local:=by first|exact .inl rfl|exact .inr rfl|assumption):PG X c1! eO!:=by intro J s Z H v u Q I r h;exact wpAny_assign_Name (vE I hN hi O r (λs' I'=>⟨_,H,I',h⟩) hf)
def AT:AV:=λvs Z H Q=>vs=[]/\Q Z H
def Us(t:TG)(u:AV):AV:=λvs Z H Q=>∃v r,vs=v::r/\t v Z H λσ H'=>u r σ H' Q
def b2d:DV X [] AT:=by intro J s Z H vs us Q I r h;obtain⟨e,h⟩:=h;subst e;cases r;exact assignInOrder_nil ⟨Z,H,I,h⟩
def pR{e:Expr}{es:bM!}{t:TG}{u:AV}(B:PG X e t)(Y:DV X es u)
  (hs:(assignEach aO! X.env).map C_=assign e X.env::(md!).map C_:=by rfl):DV X aO! (Us t u):=by
 intro J s Z H vs us Q I r h;obtain⟨v,vr,e1,h⟩:=h;subst e1;cases r with
 |cons r rr=>
  rw[hs];refine assignInOrder_cons (dO (B J s Z H _ _ _ I r h) λ_ s1 ⟨dr,H1,I1,q1⟩=>?_);exact Y J s1 dr H1 _ _ Q I1 rr q1
def AS(K:xB!)(n:Nat)(t:AV):TG:=λv Z H Q=>∃a xs,v=.ref a/\Gc K H a xs/\k_=n/\t xs Z H Q
def b7y{es:bM!}{k:Nat}{t:AV}{n:Nat}(hc:a6_)(h:DV X es t)
  (hn:(md!).length=n:=by rfl)(bv:(md!).findIdx? b_=none:=by rfl):PG X (.Tuple es k pos) (AS X.K n t):=by
 intro J s Z H v u Q I r hw;obtain⟨a,xs,e1,hq,hl,hw⟩:=hw;subst e1;cases r;obtain⟨its,rv,ht,hz⟩:=I.tuple hq;refine assign_Tuple_tuple bz_ ht (by simp[hn,<-hl,rv.length]) bv λh' O=>?_;have I1:Inv X J Z H {s with heap:=h'}:=I.kept (t':=s.toks) λb o e=>O b o (JK cU!) e;exact h J _ Z H xs _ Q I1 (by simpa using rv) hw
def FG(to ti:TE)(t:Zf):TG:=λv Z H Q=>to Z H λo H1=>ti Z H1 λi H2=>t o i v H2 λH3=>Q Z H3
def b7z{o:Expr}{to ti:TE}{t:Zf}(ho:PE X o to)(hi:PE X i ti)(hs:Wq X t)
  (ha:∀v,assign rM! X.env v=(do
   let ov <-holding [v] c5!
   let iv <-holding [v,ov] rN_
   standAt pos
   holding eO_ md_
   release eO_ []):=by intro _;rfl):PG X rM! (FG to ti t):=by
 intro J s Z H v u Q I r h;rw[ha];refine HL (JS (dO rN! λov s1 ⟨x,H1,I1,r1,q1⟩=>?_));refine HL (JS (dO (hi J s1 Z H1 _ I1 q1) λiv s2 ⟨y,H2,I2,r2,q2⟩=>?_));refine HL (QM (HL (JS (dO (hs J s2 Z H2 x y v ov iv u _ I2 r1 r2 r q2) λ_ s3 ⟨H3,I3,q3⟩=>?_))));exact wpAny_release ⟨Z,H3,I3,q3⟩
def AD(te:TE)(g:TG):TS:=λD Z H=>te Z H λx H1=>g x Z H1 D.nx
def b7t{tg e:Expr}{te:TE}{g:TG}(he:cx!)(hg:me!)(hs:swapsWithSole [tg] e pos.line X.env=pure false:=by rfl)(hw:swappedStores [tg] e X.env=pure none:=by rfl)
  (B:(assignEach [tg] X.env).map C_=[assign tg X.env]:=by rfl):PS X (.Assign [tg] e pos) (AD te g):=by
 intro J s Z H D I h;refine wpAny_Assign_stores rO! hs hw;rw[B];exact dO (hg J s1 Z H1 x v _ I1 r1 q1) λ_ s2 q=>q
def a9j{i:Nat}{x:Str}{e:Expr}{te:TE}{ig:Pos}(hN:bx!)(hi:ap_)(O:bx_)(he:cx!)(hs:swapsWith e (some iA_) pos.line X.env=pure false:=by rfl)(hf:X.fn x=true\/X.env.scope.names.lookup x=some .local:=by first|exact .inl rfl|exact .inr rfl|assumption):
  PS X (.Assign [.Name x ig] e pos) (AD te eO!):=by
 intro J s Z H D I h;refine wpAny_Assign_Name (dO c4_ λv s1 ⟨y,H1,I1,r1,q1⟩=>?_) hs;exact vE I1 hN hi O r1 (λs2 I2=>⟨_,H1,I2,q1⟩) hf
def EO(i:Nat)(te:TE)(ti:DQ):TS:=λD Z H=>∃x,Z[i]?=some gh!/\te Z H λy H1=>ti x y H1 λz H2=>D.nx (Z.set i (some z)) H2
def c7e{i:Nat}{x:Str}{e:Expr}{te:TE}{op:Operator}{ti:DQ}{ig:Pos}(hN:bx!)(hi:ap_)(O:bx_)(he:cx!)(ho:GL X op ti)(hf:X.fn x=true\/X.env.scope.names.lookup x=some .local:=by first|exact .inl rfl|exact .inr rfl|assumption):
  PS X (.AugAssign iA_ op e pos) (EO i te ti):=by
 intro J s Z H D I h;obtain⟨v,e1,h⟩:=h;obtain⟨m,hn,hl⟩:=I.loc;have XZ:Yb X.env.scope x:=by obtain k|k:=O;exact .inl k;exact .inr (.inl k)
 obtain⟨u,r,l⟩:=hl i x v hi e1 XZ;refine wpAny_AugAssign_Name ?_;have go:wpAny e_ X.A eJ_ (λw al=>wpAny e_ X.A (inplaceOp op u w) (λr dt=>wpAny e_ X.A (storeName X.env x r) (λ_=>SP X J D .next) X.xe dt) X.xe al) X.xe s:=by
  refine dO c4_ λw s1 ⟨y,H1,I1,r1,q1⟩=>?_;refine dO (ho J s1 Z H1 v y u w _ I1 r r1 q1) λz s2 ⟨zv,H2,I2,r2,q2⟩=>?_;exact vE I2 hN hi O r2 (λs3 I3=>⟨_,H2,I3,q2⟩) hf
 obtain⟨hk,hm⟩|⟨hk,c,hc,ce⟩:=l
 .exact wpAny_loadName_local I.ok.kind hk hn hm go
 .obtain hk|hk:=hk
  .exact wpAny_loadName_cell I.ok.kind hk hc ce go
  .obtain k|k:=O
   .show"!i"
   .show"!i"
def GY(f:mg!):DQ:=λx y H Q=>∃i j,x=.int i/\y=.int j/\Q (.int (f i j)) H
def c8o:GL X .Add (GY λi j=>i+j):=by intro J s Z H x y v u Q I r1 r2 h;obtain⟨i,j,e1,e2,q⟩:=h;subst e1;subst e2;obtain⟨t,rfl⟩:=r1;obtain⟨t',rfl⟩:=r2;exact iadd_int iB_
def AB(c:TT)(tb:TS):TS:=λD Z H=>∃W:Nat->St->Hp->Prop,(∃m,W m Z H)/\∀m Z H,W m Z H->
 c Z H λb H1=>if b=true then∃N:St->Hp->Prop,(∀σ H',N σ H'->∃m',m'<m/\W m' σ H')/\tb {D with nx:=N,ct:=N,bk:=D.nx} Z H1 else D.nx Z H1
def b7q{c:Expr}{body:b6!}{tc:TT}{tb:TS}(hp:gi_)(hc:PT X c tc)(hb:Uv X body tb):PS X rT_ (AB tc tb):=by
 intro J s Z H D I h;obtain⟨W,⟨m0,w0⟩,turn⟩:=h;refine wpAny_While (codeAny_whileLoop (λn s'=>∃σ H',Inv X J σ H' s'/\W n σ H') ?_ m0 ⟨Z,H,I,w0⟩);rintro n s1 ⟨dr,H1,I1,w1⟩;refine NX hp (dO (hc J s1 dr H1 _ I1 (turn n dr H1 w1)) λb s2 ⟨H2,I2,q2⟩=>?_);cases b with
 |true=>
  obtain⟨N,hN,q2⟩:=q2;rw[j!];refine NX hp (dO (hb J s2 dr H2 _ I2 q2) λf s3 q3=>?_);cases f with
  |next=>
   show"!c"
  |cont=>
   show"!c"
  |brk=>exact q3
  |ret v=>exact q3
 |false=>
  rw[HR IR];exact RA ⟨dr,H2,I2,q2⟩
end
structure It where
 go:Nat->Hp->Prop
 yld:Nat->Hp->V->Hp->Prop
 stop:Nat->Hp->Prop
def Ji(X:Cx)(J:n_)(H:Hp)(b:xz!):Prop:=
 H b=none/\b≠X.env.locals/\b∉X.fs/\if_/\if!/\∀p∈X.pn++J,p.1≠b
def Inv.fpOk{X:Cx}{J:n_}{Z:St}{H H':Hp}{s:xA!}{b:xz!}(I:d!)(hb:q_<=b)(hn:H' b=none):Ji X J H' b:=by
 refine⟨hn,OT (IV I.lt hb),I.nofs hb,.inr (JD I.sz hb),λx c e z=>?_,λp hp z=>?_⟩
 .obtain⟨v,q⟩:=I.cell x c e;exact absurd (IV q.lt rV!) dF_
 .exact absurd (IV rW! rV!) dF_
structure Ti(P:x4!)(w:x5!)(K:xB!)(tg:Expr)(ac:It)(fp:aw!)(it:xz!)(tn:dN_):Prop where
 mem:it∈fp
 obj:∀i h,tn i h->∀b∈fp,∃o,h.get? b=some o/\∀v,o.data≠.cell v
 keep:∀i h h',tn i h->(∀b∈fp,∀o,h.get? b=some o->h'.get? b=some o)->tn i h'
 item:∀(X:Cx),X.prog=P->X.w=w->X.K=K->X.calm=true->∀(i:Nat) (J:n_) (s:xA!) (Z:St) (H:Hp) (E:p_),Inv X J Z H s->rW_->tn i s.heap->ac.go i H->
  wpAny L_ X.A iC_ (λr s1=>∃u,r=some u/\
   wpAny L_ X.A rX! (λ_ s2=>∃x H',Inv X J Z H' s2/\Bs x u/\ac.yld i H x H'/\tn aX_ s2.heap/\∀b∈fp,H' b=none) E s1) E s
 done:∀(X:Cx),X.prog=P->X.w=w->X.K=K->X.calm=true->∀(i:Nat) (J:n_) (s:xA!) (Z:St) (H:Hp) (E:p_),Inv X J Z H s->rW_->tn i s.heap->ac.stop i H->
  wpAny L_ X.A iC_ (λr s1=>r=none/\Inv X J Z H s1) E s
 self:∀(A:x9!) (i:Nat) (s:xA!) (Q:p_) (E:p_),tn i s.heap->Q b8! s->wpAny L_ A (pyIter b8!) Q E s
abbrev TI:=St->Hp->(It->Hp->Prop)->Prop
def DU(X:Cx)(J:n_)(Z:St)(tg:Expr)(R:gj_)(vk:x6!)(s2:xA!):Prop:=
 ∃(it:xz!) (fp:aw!) (tn:dN_) (ac:It) (H':Hp),vk=.ref it/\Inv X J Z H' s2/\Ti X.prog X.w X.K tg ac fp it tn/\tn 0 s2.heap/\(∀b∈fp,Ji X J H' b)/\R ac H'
def PI(X:Cx)(tg iter:Expr)(wi:TI):Prop:=
 ∀(J:n_) (s:xA!) (Z:St) (H:Hp) (R:gj_),Inv X J Z H s->wi Z H R->
  wpAny e_ X.A (eval iter X.env) (λv s1=>wpAny e_ X.A (pyIter v) rX_ X.xe s1) X.xe s
def c0i{M:Model}{A:x9!}{E:p_}{s:xA!}{tg:Expr}{u:x6!}{o:Obj}{n:String}{vs:W!}{Q:cV!}(ho:s.heap.get? it=some o)(hc:o.cls=.type n)(hd:o.data=.fields vs)
  (hn:(rZ_).contains n=false)(hQ:Q () s):wpAny M A rX! Q E s:=by
 unfold letOwnedTupleGo;cases tg<;>first
  |exact HN hQ
  |(cases u<;>first
    |exact HN hQ
    |(refine HL (wpAny_load ho ?_);rw[hc,hd];show wpAny M A (if((rZ_).contains n&&vs[0]?==some (rawInt _))=true then _ else _) Q E s;rw[HR (by intro h;rw[hn,Bool.false_and]at h;cases h)];exact HN hQ))
def FQ(K:xB!)(a:xz!):It:=
 ⟨λi H=>∃xs x,Fn K H a xs/\xs[i]?=some x,λi H x H'=>H'=H/\∀xs,Fn K H a xs->xs[i]?=some x,λi H=>∃xs,Fn K H a xs/\k_<=i⟩
def HK(K:xB!)(a:xz!):It:=
 ⟨λi H=>∃xs x,Gc K H a xs/\xs[i]?=some x,λi H x H'=>H'=H/\∀xs,Gc K H a xs->xs[i]?=some x,λi H=>∃xs,Gc K H a xs/\k_<=i⟩
def CY(lo:Int)(n:Nat):It:=⟨λi _=>i<n,λi H x H'=>H'=H/\x=.int (lo+i),λi _=>n<=i⟩
def b3u{P:x4!}{w:x5!}{K:xB!}{tg:Expr}(a it:xz!):Ti P w K tg (FQ K a) [it] it (λi h=>h.IsListIter it a i) where
 mem:=by simp
 obj:=λi h st b hb=>by
  have e:b=it:=by simpa using hb
  subst e;show"#!"
 keep:=λi h h' st k=>st.at λo e=>k it d_ o e
 item:=by
  show"!0";obtain⟨xs,x,hq,O⟩:=hg;obtain⟨its,rv,p,hz⟩:=I.list hq;obtain⟨u,hu,ru⟩:=rv.get O;show"!2";refine wpAny_pyNext_list_item st p.isList (x:=u) r3! λh' h2 sb=>?_;have I1:Inv X J Z H {s with heap:=h'}:=I.turned (t':=s.toks) r2_ f0 f1 f3 f4 f5;obtain⟨o,e,c,d⟩:=id h2;exact⟨u,rfl,c0i (s:=mj_) e c d c_ ⟨x,H,I1,ru,⟨rfl,λys hy=>by rw[I.list_inj hy hq];exact O⟩,h2,mk_⟩⟩
 done:=by
  show"!0";obtain⟨xs,hq,O⟩:=hg;obtain⟨its,rv,p,hz⟩:=I.list hq;show"!2";have hl:=gl_;exact wpAny_pyNext_list_end bz_ st p.isList bN! λh' eb=>ml!
 self:=λ_ _ _ _ _ st h=>wpAny_pyIter_listiter st h
def a8o{P:x4!}{w:x5!}{K:xB!}{tg:Expr}(it:xz!)(lo:Int)(n:Nat):Ti P w K tg (CY lo n) [it] it (λi h=>IsRangeIter h it (lo+(i:Nat)*1) ((n:Int) - (i:Nat)) 1) where
 mem:=by simp
 obj:=λi h st b hb=>by
  have e:b=it:=by simpa using hb
  subst e;exact⟨_,st,λv z=>by
   have z':Data.fields _=Data.cell v:=z;cases z'⟩
 keep:=λi h h' st k=>k it d_ _ st
 item:=by
  show"!0";show"!2";have W:=Walks.range (prog:=X.prog) (w:=X.w) bz_ it lo 1 n;refine W.item i s _ _ hg st λv h' tk hv h2 kk=>?_;obtain⟨t,rfl⟩:=hv;show"!]";refine⟨_,rfl,c0i (s:={s with heap:=h',toks:=tk}) (n:="range_iterator") h2 rfl rfl c_ ⟨.int (lo+i),H,I1,⟨t,?_⟩,bN_,h2,mk_⟩⟩;rw[Int.mul_one]
 done:=by
  show"!0";show"!2";exact wpAny_pyNext_range_end bz_ st (by have:n<=i:=hg;omega) λh' eb=>ml!
 self:=λ_ _ _ _ _ st h=>wpAny_pyIter_rangeiter st h
end L2
namespace L2
open PySem PySem.Spec PyProof.Rows
section
variable{X:Cx}{tg:Expr}
def CO(K:xB!)(tl:TE):TI:=λZ H R=>tl Z H λx H1=>∃a,x=.ref a/\(∃xs,Fn K H1 a xs)/\R (FQ K a) H1
def FE(K:xB!)(tl:TE):TI:=λZ H R=>tl Z H λx H1=>∃a,x=.ref a/\(∃xs,Gc K H1 a xs)/\R (HK K a) H1
def b2c{l:Expr}{tl:TE}(hl:PE X l tl):PI X tg l (CO X.K tl):=by
 intro J s Z H R I h;refine dO r5! λv s1 ⟨x,H1,I1,r1,q1⟩=>?_;obtain⟨a,e,⟨xs,hq⟩,q⟩:=q1;subst e;cases r1;obtain⟨its,rv,p,hz⟩:=I1.list hq;refine wpAny_pyIter_list p.isList ?_;refine⟨E!,[E!],_,_,H1,rfl,mm_,b3u a _,eR!,bA_,q⟩;have e:b=E!:=by simpa using hb
 show"!o"
def a5m{J:n_}{Z:St}{H:Hp}{s:xA!}{R:gj_}{E:p_}{lo hi:Int}{t u v:Tok}{tk:Nat}(I:d!)(B:-gn!<=lo)(Y:lo<2 ^ 62)(h3:-gn!<=hi)(h4:hi<2 ^ 62)
  (q:R (CY lo (mo!).toNat) H):wpAny e_ X.A (pyIter c6!) rX_ E {s with heap:=s.heap.push {cls:=.type "range",data:=.fields #[.int lo t,.int hi u,.int 1 v]},toks:=tk}:=by
 refine wpAny_pyIter_range (IsRange.new ..) (small_one B Y h3 h4) ?_;have I1:Inv X J Z H {s with heap:=s.heap.push {cls:=.type "range",data:=.fields #[.int lo t,.int hi u,.int 1 v]},toks:=tk}:=I.kept λb o e=>HS _ e;refine⟨(mo_).objs.size,[(mo_).objs.size],_,_,H,rfl,
  I1.kept (t':=tk) λb o e=>HS _ e,a8o _ lo (mo!).toNat,?_,λb hb=>?_,q⟩
 .have e1:lo+gn_*1=lo:=by simp
  have e2:r6_ - gn_=Builtin.Range.rangeSize lo hi 1:=by rw[rangeSize_one];split<;>omega
  show IsRangeIter _ _ (lo+gn_*1) (r6_ - gn_) 1;rw[e1,e2];exact IU _ rfl
 .have e:b=(mo_).objs.size:=by simpa using hb
  show"!o"
def CN(ta:TA):TI:=λZ H R=>ta Z H λvs H1=>∃j:Int,vs=[dP!]/\-gn!<=j/\j<2 ^ 62/\R (CY 0 j.toNat) H1
def CM(ta:TA):TI:=λZ H R=>ta Z H λvs H1=>∃i j:Int,vs=[b7!,dP!]/\(-gn!<=i/\i<2 ^ 62/\-gn!<=j/\j<2 ^ 62)/\R (CY i (j - i).toNat) H1
def b4o{a:Expr}{ta:TA}{p pos:Pos}(hg:iF_)(hm:iG!)(ha:PA X [a] ta)(hs:r8_:=by rfl):PI X tg r9_ (CN ta):=by
 intro J s Z H R I h;refine Call_ (mG I hg hm boot_range (LM mp_ hs rfl));obtain⟨j,e,q1,q2,q⟩:=q1;subst e;cases r1 with
 |cons r rr=>
  cases rr;obtain⟨t,rfl⟩:=r;exact call_range_1 (a5m I1 a! a! q1 q2 (by simpa using q))
def b4n{a b:Expr}{ta:TA}{p pos:Pos}(hg:iF_)(hm:iG!)(ha:PA X ak_ ta)(hs:sb!:=by rfl)(bm:sb_:=by rfl):
  PI X tg sc! (CM ta):=by
 intro J s Z H R I h;refine Call_ (mG I hg hm boot_range (LM mp_ (by rw[hs,bm]) (by rw[bm];rfl)));obtain⟨i,j,e,⟨q1,q2,q3,q4⟩,q⟩:=q1;subst e;cases r1 with
 |cons r rr=>
  cases rr with
  |cons r' rr=>
   cases rr;obtain⟨t,rfl⟩:=r;obtain⟨t',rfl⟩:=r';exact call_range_2 (a5m I1 q1 q2 q3 q4 q)
def EM(wi:TI)(g:TG)(tb:TS):TS:=λD Z H=>wi Z H λac H1=>∃W:Nat->Nat->St->Hp->Prop,(∃m,W 0 m Z H1)/\∀i m Z H,W i m Z H->
 (ac.stop i H/\D.nx Z H)\/(ac.go i H/\∃N:St->Hp->Prop,(∀σ H',N σ H'->∃m',m'<m/\W aX_ m' σ H')/\∀x H',ac.yld i H x H'->g x Z H' λcz H2=>tb {D with nx:=N,ct:=N,bk:=D.nx} cz H2)
def Ra(fp:aw!)(h:Heap):List eF!:=fp.filterMap λb=>(h.get? b).map λo=>(b,o)
def kN{fp:aw!}{h:Heap}{b:xz!}{o:Obj}(hb:b∈fp)(e:qM_):(b,o)∈Ra fp h:=MZ.mpr ⟨b,hb,by rw[e];rfl⟩
def b5f{fp:aw!}{h:Heap}{p:Addr×Obj}(hp:p∈Ra fp h):p.1∈fp/\h.get? p.1=some p.2:=by
 obtain⟨b,hb,e⟩:=MZ.mp hp;cases q:h.get? b with
 |none=>rw[q]at e;cases e
 |some o=>
  rw[q]at e;have e':(b,o)=p:=JN e;subst e';exact⟨hb,q⟩
def Inv.pinned{J:n_}{Z:St}{H:Hp}{s:xA!}{fp:aw!}(I:d!)(hf:∀b∈fp,Ji X J H b)(ho:∀b∈fp,∃o,s.heap.get? b=some o/\∀v,o.data≠.cell v):Inv X (J++Ra fp s.heap) Z H s:=
 I.pins_of λp hp=>(HU.mp hp).elim (λz=>I.pin p iI_) λz=>by
  obtain⟨hb,e⟩:=b5f z;obtain⟨f0,f1,f2,_⟩:=hf p.1 hb;obtain⟨o,e',d⟩:=ho p.1 hb;rw[e]at e';cases e';exact⟨e,f0,f1,f2,d⟩
def Inv.unpinned{J pl:n_}{Z:St}{H:Hp}{s:xA!}(I:Inv X (J++pl) Z H s):Inv X J Z H s:=I.pins_of λp hp=>I.pin p (II _ (IS _ hp))
def b7s{body:b6!}{wi:TI}{g:TG}{tb:TS}{pos:Pos}(hp:gi_)(hc:a6_)(hi:mq!)(hg:me!)(hb:Uv X body tb)
  (hs:c6_:=by intro _;rfl):PS X sd_ (EM wi g tb):=by
 intro J s Z H D I h;refine wpAny_For (dO (hi J s Z H _ I h) λv s1 B=>dO B λvk s2 Y=>?_) hs;obtain⟨it,fp,tn,ac,H2,e,I2,T,bf,f2,W,⟨m0,w0⟩,turn⟩:=Y;subst e;have mz:∀{H':Hp},gq!->∀b∈fp,Ji X J H' b:=λhn b hb=>⟨hn b hb,(iJ!).2⟩;refine codeAny_forLoop_any (λn s'=>∃i σ H',Inv X J σ H' s'/\tn i s'.heap/\gq!/\W i n σ H') ?_ m0 ⟨0,Z,H2,I2,bf,sf!,w0⟩;rintro n s3 ⟨i,gq,H3,I3,vm,TY,w3⟩;obtain⟨stop,qn⟩|⟨go,N,hN,step⟩:=turn i n gq H3 w3
 .refine NX hp (dO (T.done X rfl rfl rfl hc i J s3 gq H3 X.xe I3 (mz TY) vm stop) λr s4 ⟨L,I4⟩=>?_);subst L;exact RA ⟨gq,H3,I4,qn⟩
 .refine NX hp (dO (T.item X rfl rfl rfl hc i J s3 gq H3 X.xe I3 (mz TY) vm go) λr s4 ⟨u,L,h4⟩=>?_);subst L;refine NX hp (dO h4 λ_ s5 ⟨x,H5,I5,r5,y5,m7,xw⟩=>?_);have xx:=I5.pinned (mz xw) sh!;refine NX hp (dO (hg _ s5 gq H5 x u _ xx r5 sg_) λ_ s6 ⟨lg,H6,I6,q6⟩=>?_);refine NX hp (dO (hb _ s6 lg H6 _ I6 q6) λf s7 q7=>?_);have again:∀{il:St} {H7:Hp},Inv X (J++Ra fp s5.heap) il H7 s7->N il H7->∃m,m<n/\∃i σ H',Inv X J σ H' s7/\tn i s7.heap/\gq!/\W i m σ H':=λ{il H7} I7 n7=>by
   obtain⟨m',hm,w7⟩:=hN il H7 n7;refine⟨m',hm,i+1,il,H7,iK!,T.keep _ _ _ m7 λb hb o e=>(sj!).1,bA_,w7⟩;obtain⟨o,e,d⟩:=T.obj _ _ m7 b hb;exact(sj!).2.1
  cases f with
  |next=>obtain⟨il,H7,I7,n7⟩:=q7;exact again I7 n7
  |cont=>obtain⟨il,H7,I7,n7⟩:=q7;exact again I7 n7
  |brk=>obtain⟨il,H7,I7,q7⟩:=q7;exact⟨il,H7,iK!,q7⟩
  |ret v=>obtain⟨x7,il,H7,I7,r7,q7⟩:=q7;exact⟨x7,il,H7,iK!,r7,q7⟩
end
end L2
namespace L2
open PySem PySem.Spec PyProof.Rows
abbrev R2:=V->V->Hp->VK->Prop
def Gs(X:Cx)(f:eU!)(r:R2):Prop:=
 ∀(J:n_) (s:xA!) (Z:St) (H:Hp) (x y:V) (v u:x6!) (Q:VK),Inv X J Z H s->Bs x v->Bs y u->r x y H Q->
  wpAny e_ X.A (f v u) aN! X.xe s
def FM(X:Cx)(f:sj_)(r:ms!):Prop:=
 ∀(J:n_) (s:xA!) (Z:St) (H:Hp) (x:V) (v:x6!) (Q:VK),Inv X J Z H s->Bs x v->r x H Q->
  wpAny e_ X.A (f v) aN! X.xe s
def Jn(X:Cx)(f:x6!)(r:dQ!):Prop:=
 ∀(J:n_) (s:xA!) (Z:St) (H:Hp) (xs:l_) (us:i!) (Q:VK),Inv X J Z H s->Bc xs us->r xs H Q->
  wpAny e_ X.A (call f us) aN! X.xe s
def FN(X:Cx)(r:V->Hp->rn!->Prop):Prop:=
 ∀(J:n_) (s:xA!) (Z:St) (H:Hp) (x:V) (v:x6!) (Q:dI!),Inv X J Z H s->Bs x v->r x H Q->
  wpAny e_ X.A l5_ ip! X.xe s
def BD(r:R2)(ta tb:TE):TE:=λZ H Q=>ta Z H λx H1=>tb Z H1 λy H2=>r x y H2 Q
def GT(r:ms!)(ta:TE):TE:=λZ H Q=>ta Z H λx H1=>r x H1 Q
nonrec def rI(C:ms_)(g:iK_):R2:=λx y H Q=>∃i j,x=.int i/\y=.int j/\C i j/\Q bB! H
def Sv(g:iK_):R2:=λx y H Q=>∃i j,x=.int i/\y=.int j/\Q bB! H
nonrec def rU(g:Int->V):V->Hp->VK->Prop:=λx H Q=>∃i,x=.int i/\Q (g i) H
section
variable{X:Cx}{a b c:Expr}{ta tb tc:TE}{pos:Pos}
def c9q(ha:a5!)(hb:cw!){J:n_}{s:xA!}{Z:St}{H:Hp}{R:rp_}(I:d!)
  (h:rp!){Q:p_}{f:eU!}
  (hf:rq!):
  wpAny e_ X.A l3! rr! X.xe s:=by
 show"!8"
def b8e{op:Operator}{r:R2}(ho:mt_)(ha:a5!)(hb:cw!):PE X mu! iL!:=by intro J s Z H Q I h;exact wpAny_BinOp sm!
def d0t{op:UnaryOp}{r:ms!}(ho:FM X (unaryOp op) r)(ha:a5!):PE X (.UnaryOp op a pos) (GT r ta):=by intro J s Z H Q I h;exact UnaryOp_ (dO b6_ λv s1 ⟨x,H1,I1,r1,q1⟩=>ho J s1 Z H1 x v Q I1 r1 q1)
def opI{f:eU!}{C:ms_}{g:mg!}
  (rule:∀(i j:Int) (t u:Tok) (s:xA!) (Q:p_) (E:p_),C i j->Q sn! {s with toks:=s.toks+1}->wpAny e_ X.A mv! Q E s):
  Gs X f (rI C λi j=>.int bB!):=by
 intro J s Z H x y v u Q I rx ry h;obtain⟨i,j,rfl,rfl,hc,q⟩:=h;show"!?";obtain⟨t',rfl⟩:=ry;exact rule i j t t' s _ _ hc sn_
def d1a{f:eU!}{g:mg!}
  (rule:∀(i j:Int) (t u:Tok) (s:xA!) (Q:p_) (E:p_),Q sn! {s with toks:=s.toks+1}->wpAny e_ X.A mv! Q E s):
  Gs X f (Sv λi j=>.int bB!):=by
 show"!I";exact rule i j t t' s _ _ sn_
def c3l{f:eU!}{g:mv_}
  (rule:∀(i j:Int) (t u:Tok) (s:xA!) (Q:p_) (E:p_),Q (.bool bB!) s->wpAny e_ X.A mv! Q E s):
  Gs X f (Sv λi j=>.bl bB!):=by
 show"!I";exact rule i j t t' s _ _ ⟨.bl bB!,H,I,rfl,q⟩
def BA(i j:Int):Prop:=0<j/\j<1073741824
def AZ(i j:Int):Prop:=0<=j/\j<=1000000/\gr_<2 ^ 64
def Yg(i j:Int):Prop:=(-iL_<i/\i<2 ^ 64)\/(-iL_<j/\j<2 ^ 64)
def Yg.ok{i j:Int}(h:Yg i j):IntMulOk i j:=by
 obtain⟨B,Y⟩|⟨B,Y⟩:=h
 .exact .of_left sp!
 .exact .of_right sp!
def c7r:Gs X eV! (Sv λi j=>.int (i+j)):=d1a λ_ _ _ _ _ _ _ q=>add_int q
def oP:Gs X (binaryOp .Sub) sq_:=d1a λ_ _ _ _ _ _ _ q=>sub_int q
def rW:Gs X sr! mx!:=opI λ_ _ _ _ _ _ _ hc q=>mul_int q hc.ok
def nG:Gs X (binaryOp .FloorDiv) my!:=opI λi j _ _ _ _ _ hc q=>by
 have B:(0:Int)<j:=hc.1;have Y:j<1073741824:=hc.2;exact floordiv_int a! (by rw[Int.fdiv_eq_ediv_of_nonneg i a!];exact q) (.inl (PyProof.noPylong_small a!))
def eG:Gs X (binaryOp .Mod) my_:=opI λi j _ _ _ _ _ hc q=>by
 have B:(0:Int)<j:=hc;exact mod_int' a! (by rw[Int.fmod_eq_emod_of_nonneg i a!];exact q)
def c7l:Gs X (binaryOp .Pow) mA!:=opI λ_ _ _ _ _ _ _ hc q=>pow_int_small hc.1 hc.2.1 hc.2.2 q
def unI{f:sj_}{g:Int->Int}
  (rule:∀(i:Int) (t:Tok) (s:xA!) (Q:p_) (E:p_),Q (.int (g i) s.toks) {s with toks:=s.toks+1}->wpAny e_ X.A (f dD!) Q E s):
  FM X f (rU λi=>.int (g i)):=by
 intro J s Z H x v Q I rx h;obtain⟨i,rfl,q⟩:=h;show"!?";exact rule i t s _ _ ⟨.int (g i),H,a5_,I_,q⟩
def c6q:FM X (unaryOp .USub) (rU λi=>.int (-i)):=unI λ_ _ _ _ _ q=>neg_int q
end
def ES:V->V->Bool
 |.non,.non=>true|.non,.int _=>true|.int _,.non=>true|.non,.bl _=>true|.bl _,.non=>true|.non,.str _=>true|.str _,.non=>true
 |.int _,.int _=>true|.bl _,.bl _=>true|.str _,.str _=>true|.byt _,.byt _=>true
 |.int _,.str _=>true|.str _,.int _=>true|.bl _,.str _=>true|.str _,.bl _=>true
 |_,_=>false
def GB:R2:=λx y H Q=>ES x y=true/\Q (.bl (!decide (x=y))) H
def b3e{i j:Int}:decide (V.int i=V.int j)=(i==j):=by rw[LQ];simp
def c9d{i j:Bool}:decide (V.bl i=V.bl j)=(i==j):=by rw[LQ];simp
def b3d:decide (V.str i=V.str j)=(i==j):=by rw[LQ];simp
def c4y{i j:Array UInt8}:decide (V.byt i=V.byt j)=(i.toList==j.toList):=by rw[LQ];cases i;cases j;simp
section
variable{X:Cx}{a b c:Expr}{ta tb tc:TE}{pos:Pos}
def eP{J:n_}{Z:St}{H:Hp}{s:xA!}{Q:VK}{k k':Bool}(I:d!)(q:Q (.bl k) H)(e:k=k'):EP X J Z Q (.bool k') s:=by subst e;exact⟨.bl k,H,I,rfl,q⟩
def zH:Gs X sx_ GB:=by
 intro J s Z H x y v u Q I rx ry h;obtain⟨hs,q⟩:=h;cases x with
 |non=>
  cases rx;cases y with
  |non=>cases ry;exact PySem.EqNone.ne_none_none bP_
  |bl j=>cases ry;exact PySem.EqNone.ne_none_bool bP_
  |int j=>obtain⟨t',rfl⟩:=ry;exact PySem.EqNone.ne_none_int bP_
  |str j=>obtain⟨t',rfl⟩:=ry;exact PySem.EqNone.ne_none_str bP_
  |_=>exact absurd eW! IR
 |bl i=>
  cases rx;cases y with
  |non=>cases ry;exact PySem.EqNone.ne_bool_none bP_
  |bl j=>cases ry;exact ne_bool (eP I q (congrArg not c9d))
  |str j=>obtain⟨t',rfl⟩:=ry;exact PySem.EqMixed.ne_bool_str bP_
  |_=>exact absurd eW! IR
 |int i=>
  obtain⟨t,rfl⟩:=rx;cases y with
  |non=>cases ry;exact PySem.EqNone.ne_int_none bP_
  |int j=>obtain⟨t',rfl⟩:=ry;exact ne_int (eP I q (congrArg not b3e))
  |str j=>obtain⟨t',rfl⟩:=ry;exact PySem.EqMixed.ne_int_str bP_
  |_=>exact absurd eW! IR
 |str i=>
  obtain⟨t,rfl⟩:=rx;cases y with
  |non=>cases ry;exact PySem.EqNone.ne_str_none bP_
  |bl j=>cases ry;exact PySem.EqMixed.ne_str_bool bP_
  |int j=>obtain⟨t',rfl⟩:=ry;exact PySem.EqMixed.ne_str_int bP_
  |str j=>obtain⟨t',rfl⟩:=ry;exact ne_str (eP I q (congrArg not b3d))
  |_=>exact absurd eW! IR
 |byt i=>
  obtain⟨t,rfl⟩:=rx;cases y with
  |byt j=>obtain⟨t',rfl⟩:=ry;exact W.ne_bytes (eP I q (congrArg not c4y))
  |_=>exact absurd eW! IR
 |_=>cases y<;>exact absurd eW! IR
def a5w:Gs X (compareOp .Lt) mB_:=c3l λ_ _ _ _ _ _ _ q=>lt_int q
def d0x:Gs X mC! (Sv λi j=>.bl mC_):=c3l λ_ _ _ _ _ _ _ q=>le_int q
def b8p:Gs X sz_ mD!:=c3l λ_ _ _ _ _ _ _ q=>gt_int q
def d0z:Gs X (compareOp .GtE) mE!:=c3l λ_ _ _ _ _ _ _ q=>ge_int q
def a9l:Gs X sC! sC_:=by
 intro J s Z H x y v u Q I rx ry h;obtain⟨rfl,q⟩:=h;cases ry;refine is_none_gen (eP I q ?_);cases x<;>first
  |(cases rx;rfl)
  |(obtain⟨t,rfl⟩:=rx;rfl)
def nB:Gs X sD! sD_:=by
 intro J s Z H x y v u Q I rx ry h;obtain⟨rfl,q⟩:=h;cases ry;refine isnot_none_gen (eP I q ?_);cases x<;>first
  |(cases rx;rfl)
  |(obtain⟨t,rfl⟩:=rx;rfl)
def Gs.or{f:eU!}{r r':R2}(h:Gs X f r)(h':Gs X f r'):Gs X f sF!:=by
 intro J s Z H x y v u Q I rx ry q;obtain q|q:=q
 .exact h J s Z H x y v u Q I rx ry q
 .exact h' J s Z H x y v u Q I rx ry q
def aP(b:Expr){op:CmpOp}(h:op≠.In:=by decide)(Y:op≠.NotIn:=by decide):behindInMarks op b=false:=by
 have e1:rx!=false:=by cases op<;>first|rfl|exact absurd rfl h
 have e2:rw!=false:=by cases op<;>first|rfl|exact absurd rfl Y
 cases b<;>simp[behindInMarks,e1,e2]
def b2f{op:CmpOp}{r:R2}(ho:ca_)(ha:a5!)(hb:cw!)(hm:dK_):PE X dL! iL!:=by intro J s Z H Q I h;exact wpAny_Compare1 sm! hm
def Zm(t:TE):TT:=λZ H Q=>t Z H λx H'=>∃k,x=.bl k/\Q k H'
def b1w{op:CmpOp}{r:R2}(ho:ca_)(ha:a5!)(hb:cw!)(hm:dK_):PT X dL! (Zm iL!):=by
 intro J s Z H Q I h;refine QY (dO b6_ λv s1 ⟨x,H1,I1,r1,q1⟩=>dO gc! λu s2 ⟨y,H2,I2,r2,q2⟩=>
  dO mF! λc s3 ⟨z,H3,I3,r3,k,e,q3⟩=>?_) hm
 subst e;cases r3;exact JQ ⟨H3,I3,q3⟩
def Xc(r r':R2)(ta tb tc:TE):TE:=λZ H Q=>ta Z H λx H1=>tb Z H1 λy H2=>r x y H2 λz H3=>∃k,z=.bl k/\
 (if k=true then tc Z H3 λw' H4=>r' y w' H4 Q else Q X_ H3)
def b8k{op ff:CmpOp}{r r':R2}(ho:ca_)(de:iN!)(ha:a5!)(hb:cw!)(hc:PE X c tc)
  (hm:iN_:=by with_unfolding_all rfl):PE X iO! sI_:=by
 intro J s Z H Q I h;refine Compare_chain (dO b6_ λv s1 ⟨x,H1,I1,r1,q1⟩=>chain_link (dO gc! λu s2 ⟨y,H2,I2,r2,q2⟩=>
  dO mF! λd s3 ⟨z,H3,I3,r3,k,e,q3⟩=>?_)) hm
 subst e;cases r3;refine JQ ?_;cases k with
 |false=>exact ite_ff ⟨iu!,H3,I3,rfl,q3⟩
 |true=>exact ite_tt (chain_last (dO sI! λw' s4 ⟨z',H4,I4,r4,q4⟩=>de J s4 Z H4 y z' u w' Q I4 r2 r4 q4))
def b7p{op ff:CmpOp}{r r':R2}(ho:ca_)(de:iN!)(ha:a5!)(hb:cw!)(hc:PE X c tc)
  (hm:iN_:=by with_unfolding_all rfl):PT X iO! (Zm sI_):=by
 intro J s Z H Q I h;refine isTrue_chain (dO b6_ λv s1 ⟨x,H1,I1,r1,q1⟩=>test_link (dO gc! λu s2 ⟨y,H2,I2,r2,q2⟩=>
  dO mF! λd s3 ⟨z,H3,I3,r3,k,e,q3⟩=>?_)) hm
 subst e;cases r3;refine JQ ?_;cases k with
 |false=>
  obtain⟨k',e',q'⟩:=q3;cases e';exact ite_ff ⟨H3,I3,q'⟩
 |true=>
  refine ite_tt (test_last (dO sI! λw' s4 ⟨z',H4,I4,r4,q4⟩=>dO (de J s4 Z H4 y z' u w' _ I4 r2 r4 q4) λd' s5 ⟨z2,H5,I5,r5,k2,e2,q5⟩=>?_));subst e2;cases r5;exact JQ ⟨H5,I5,q5⟩
def CU(K:xB!)(x:V)(H:Hp)(k:Bool):Prop:=
 match x with
 |.non=>k=false
 |.bl b=>k=b
 |.int i=>k=gt!
 |.str y=>cy_<=sizeLine/\k=((cy_:Int) != 0)
 |.byt y=>y.size<=sizeLine/\k=((y.size:Int) != 0)
 |.ref p=>(∃xs,Fn K H p xs/\k=! dT!)\/(∃xs,Gc K H p xs/\k=! dT!)\/∃kvs,H p=some dT_/\k=! mG_
 |_=>False
def b0g{κ:Type}{kvs:gt_}{vs:List lB_}(r:KV kvs vs):(!vs.isEmpty)=! mG_:=by cases r<;>rfl
def xG{xs:l_}{its:i!}(r:Bc xs its):(! mH!)=! dT!:=by cases r<;>simp
def sF:(sizeLine:Nat)<2 ^ 63:=by rw[JY];decide
def c6t:FN X (λx H Q=>∃k,CU X.K x H k/\Q k H):=by
 intro J s Z H x v Q I rx h;obtain⟨k,e,q⟩:=h;have hl:=sF;have hs:sizeLine=16777216:=JY;cases x with
 |non=>
  cases rx;have e':k=false:=e;subst e';exact truthy_none mH_
 |bl b=>
  cases rx;have e':k=b:=e;subst e';exact JQ mH_
 |int i=>
  show"!?";have e':k=gt!:=e;subst e';exact PySem.P.truthy_int mH_
 |str y=>
  show"!?";obtain⟨hy,e'⟩:cy_<=sizeLine/\k=((cy_:Int) != 0):=e;subst e';exact PySem.P.truthy_str a! ⟨H,a5_,q⟩
 |byt y=>
  show"!?";obtain⟨hy,e'⟩:y.size<=sizeLine/\k=((y.size:Int) != 0):=e;subst e';exact W.truthy_bytes a! ⟨H,a5_,q⟩
 |ref p=>
  cases rx;have e':(∃xs,Fn X.K H p xs/\k=! dT!)\/(∃xs,Gc X.K H p xs/\k=! dT!)\/∃kvs,H p=some dT_/\k=! mG_:=e;obtain⟨xs,O,e'⟩|⟨xs,O,e'⟩|⟨kvs,O,e'⟩:=e'
  .subst e';obtain⟨its,r,pl,hz⟩:=I.list O;have am:=aN_;exact wpAny_truthy_list pl.isList iP! sN_
  .subst e';obtain⟨its,r,pl,hz⟩:=I.tuple O;have am:=aN_;exact truthy_tuple pl iP! sN_
  .subst e';obtain⟨hz,hS,vs,r,m⟩:aG!<=sizeLine/\(p==sysModules)=false/\∃vs,KV kvs vs/\s.heap.DictOf (mixKind X.prog X.w) p vs:=I.hok p _ O;have am:aG!=bB_:=NA r;exact wpAny_truthy_dict hS m a! ⟨H,a5_,by rw[b0g r];exact q⟩
 |_=>exact(sP!).elim
def b7n(ha:a5!)(he:∀dq,isTrue a X.env dq=(do let v <-dq;standAt a.pos;holding [v] l5_)):
  PT X a (λZ H Q=>ta Z H λx H'=>∃k,CU X.K x H' k/\Q k H'):=by
 show"!Q";exact isTrue_plain (dO b6_ λv s1 ⟨x,H1,I1,r1,q1⟩=>c6t J s1 Z H1 x v Q I1 r1 q1) (he _)
def a9m:Gs X eV! (λx y H Q=>∃i j,x=.str i/\y=.str j/\i.length+j.length<=sizeLine/\Q (.str (i++j)) H):=by intro J s Z H x y v u Q I rx ry h;obtain⟨i,j,rfl,rfl,hz,q⟩:=h;obtain⟨t,rfl⟩:=rx;obtain⟨t',rfl⟩:=ry;exact add_str (λt' tk=>⟨.str (i++j),H,a5_,I_,q⟩) hz
def vC{x:V}(r:Bc [x] us):∃u,us=[u]/\Bs x u:=by
 cases r with
 |cons r1 r2=>cases r2;exact⟨_,rfl,r1⟩
def a4o{x y:V}(r:Bc [x,y] us):∃u w',us=[u,w']/\Bs x u/\Bs y w':=by
 cases r with
 |cons r1 r2=>
  cases r2 with
  |cons r3 r4=>cases r4;exact⟨_,_,rfl,r1,r3⟩
def c1q:Jn X sR! sR_:=by intro J s Z H xs us Q I r h;obtain⟨i,rfl,q⟩:=h;obtain⟨u,rfl,t,rfl⟩:=vC r;exact call_abs_int λu tk=>⟨.int iP_,H,a5_,I_,q⟩
def b5z(hc:a6_):Jn X sS_ sT_:=by
 intro J s Z H xs us Q I r h;obtain⟨i,j,rfl,q⟩:=h;obtain⟨u,w',rfl,⟨t,rfl⟩,⟨t',rfl⟩⟩:=a4o r;refine min_two_ints bz_ λh' tk k=>⟨_,H,I.kept k,?_,q⟩;by_cases hj:j<i
 .rw[IA hj,IA hj];exact I_
 .rw[HR hj,HR hj];exact I_
def c1o:Jn X sU! sV_:=by intro J s Z H xs us Q I r h;obtain⟨x,rfl,hz,q⟩:=h;obtain⟨u,rfl,t,rfl⟩:=vC r;exact ord_of_one hz iB_
def AW(K:xB!)(x:V)(H:Hp)(n:Nat):Prop:=
 match x with
 |.str y=>cy_<=sizeLine/\n=cy_
 |.byt y=>y.size<=sizeLine/\n=y.size
 |.ref p=>(∃xs,Fn K H p xs/\n=k_)\/∃xs,Gc K H p xs/\n=k_
 |_=>False
def bX:Jn X sW_ (λxs H Q=>∃x n,xs=[x]/\AW X.K x H n/\Q dU! H):=by
 intro J s Z H xs us Q I r h;obtain⟨x,n,rfl,e,q⟩:=h;obtain⟨u,rfl,rx⟩:=vC r;have hl:=sF;have hs:sizeLine=16777216:=JY;cases x with
 |str y=>
  show"!?";obtain⟨hy,e'⟩:cy_<=sizeLine/\n=cy_:=e;subst e';exact len_str a! iB_
 |byt y=>
  show"!?";obtain⟨hy,e'⟩:y.size<=sizeLine/\n=y.size:=e;subst e';exact W.len_bytes a! iB_
 |ref p=>
  cases rx;have e':(∃xs,Fn X.K H p xs/\n=k_)\/∃xs,Gc X.K H p xs/\n=k_:=e;obtain⟨xs,O,e'⟩|⟨xs,O,e'⟩:=e'
  .subst e';obtain⟨its,r',pl,hz⟩:=I.list O;have am:=iQ_;exact Calls.call_len_list pl.isList iP! sX_
  .subst e';obtain⟨its,r',pl,hz⟩:=I.tuple O;have am:=iQ_;exact len_tuple pl iP! sX_
 |_=>exact(sP!).elim
end
end L2
namespace L2
open PySem PySem.Spec PyProof.Rows
structure Vp(h:Heap)(x dx C:xz!)(mA:y_):Prop where
 obj:h.get? x=some lC_
 ns:h.Ns1 dx mA
 ne:dx≠x
def b5m{h:Heap}{dx:xz!}{mA:y_}(n:h.Ns1 dx mA):∃od,h.get? dx=some od/\∀name,W.lookIn name od=some (mA name):=by
 obtain⟨o,es,ep,ho,hd,hk,_,hm⟩:=n;refine⟨o,ho,λname=>?_⟩;have e:=hm name;unfold nsFind findBy at e;rw[<-Array.find?_toList]at e;unfold W.lookIn;rw[hd];show"#+";split
 .rename_i y q;rw[q]at e;exact congrArg some e
 .rename_i q;rw[q]at e;have a:es.toList.any (·.refKey)=false:=by
   rw[List.any_eq_false];intro y hy;obtain⟨z,t,X0⟩:=hk y (Array.mem_toList_iff.mp hy);simp[DictEntry.refKey,X0]
  have a':¬es.toList.any (·.refKey)=true:=by rw[a];exact IR
  rw[HR a'];exact congrArg some e
def Vp.look{h:Heap}{x dx C:xz!}{mA:y_}(I:Vp h x dx C mA):∃od,W.InstAt h x lC_ C (some od)/\∀name,W.lookIn name od=some (mA name):=
 let⟨od,ho,hl⟩:=b5m I.ns
 ⟨od,⟨I.obj,rfl,rfl,ho⟩,hl⟩
section
variable{prog:x4!}{w:x5!}{A:x9!}{E:Value->Shared->Prop}{s:xA!}{K:xB!}{x dx C f:xz!}{mA:Str->Option Value}{name:Str}{v:x6!}
def c4o{expr:Bool}{Q:p_}(X:iR!)(I:mK!)(hg:sZ_)(hh:s0!)
  (ha:W.findIn K az_ name=some none)(hv:mA name=some v)(X1:W.handedIn v=true)(h:Q v {s with toks:=s.toks+1}):
  wpAny r_ A (getAttr f1! name expr) Q E s:=by
 show"#;";exact W.get_value X ac (mK_).1 (W.findObj_own hh ha rfl (by rw[hl,hv])) X1 h
def c0j{pl:dU_}{Q:s1_}(X:iR!)(I:mK!)(hg:sZ_)
  (hf:W.findIn K az_ name=some eX_)(ht:mL!)(hv:mA name=none)(h:Q (.ref f,[.ref x]) s):
  wpAny r_ A (getMethod f1! name pl) Q E s:=by
 show"#;";exact W.method_fn X ac (mK_).1 (mK_).2 hf (LW.mp ht) (by show(W.lookIn name od).map (·.isSome)=some false;rw[hl,hv];rfl) h
def c2k{ns:p!}{Q:cV!}(X:iR!)(I:mK!)
  (hs:W.findIn K az_ "__setattr__"=some s2_)(hp:W.plainOver K C=true)(ht:W.takerIn K C name=some none)(hh:s0!)
  (hw:PySem.Within mA ns)(hsz:s3!)
  (h:∀h',Vp h' x dx C (λy=>if y=name then some v else mA y)->Heap.SameBut dx s.heap h'->Q () {s with heap:=h',toks:=s.toks+2}):
  wpAny r_ A (setAttr f1! name v) Q E s:=by
 show"#;";refine W.set_plain X ac hs (W.osa_open (s:=mM!) (r:=none) X ac hp ht λb=>?_);obtain⟨cd,hc,lb⟩:=W.any_some hh;have O:s.heap.get? x=some ⟨.ref C,some dx,.plain,#[]⟩:=I.obj;refine HL (HN (HL (HL (wpAny_loadPart O (HL (W.Looks.here (s:=mM!) (W.looks_clsIn X hc) ?_))))));rw[lb];refine HN (a:=some dx) (HL (HN gu_));refine wpAny_nsSet1 (s:=mM!) I.ns λh' j1 bm=>?_;obtain⟨oD,esD,epD,xy,xz,X2⟩:=j1.count (PySem.Within.cons name v hw);refine HL (wpAny_lookBehind xy (by rw[xz];exact pastItsLine_dict (JD X2 (by rw[IH];omega))) ?_);exact HN (h _ ⟨(bm.2 _ (HY I.ne)).trans I.obj,j1,I.ne⟩ bm)
def b9n{R:s5!}{kw:dV!}(X:iR!)(hm:s5_)
  (hi:s6!)(hf:W.typeIn K aj_=some (.type "function"))
  (h:codeAny r_ (A.under (.builtin "type.__call__" ⟨.ref C::vs,kw⟩)) (.call aj_ ⟨.ref ae_::vs,kw⟩) (W.InitBack ae_ R)
   {s with heap:=(eY!).push iT_}):
  codeAny r_ A (.call az_ ⟨vs,kw⟩) R s:=by
 obtain⟨hh,g,d,t,os⟩:=s;exact W.make_core (W.makes_of X hm) (W.looks_findIn X hi) (λself=>W.bind_fn X self hf) ao_ h
end
def Lg(f:Str)(v:V):List dE!->List dE!
 |[]=>[(f,v)]
 |(g,x)::r=>if g=f then(g,v)::r else(g,x)::Lg f v r
def tE(f g:Str)(v:V):∀fs:List dE!,(iU!).lookup g=if g=f then some v else fs.lookup g
 |[]=>by
  show List.lookup g [(f,v)]=_;by_cases h:g=f
  .have hb:(g==f)=true:=LW.mpr h;simp only[List.lookup,hb,IA h]
  .have hb:(g==f)=false:=KH.mpr h;simp only[List.lookup,hb,HR h]
 |(k,x)::r=>by
  have ih:=tE f g v r;rw[mN!];by_cases hk:k=f
  .rw[aY!];by_cases h:g=k
   .have hb:(g==k)=true:=LW.mpr h;simp only[List.lookup,hb,IA (h.trans hk)]
   .have hb:(g==k)=false:=KH.mpr h;simp only[List.lookup,hb,HR (λe:g=f=>h (e.trans hk.symm))]
  .rw[aJ!];by_cases h:g=k
   .have hb:(g==k)=true:=LW.mpr h;simp only[List.lookup,hb,HR (λe:g=f=>hk (h.symm.trans e))]
   .have hb:(g==k)=false:=KH.mpr h;simp only[List.lookup,hb];exact ih
def sH(f:Str)(v:V):∀fs:List dE!,f∈(iU!).map b_/\∀g,g∈fs.map b_->g∈(iU!).map b_
 |[]=>⟨by simp[Lg],λg h=>by simp at h⟩
 |(k,x)::r=>by
  obtain⟨i1,i2⟩:=sH f v r;rw[mN!];by_cases hk:k=f
  .rw[aY!];subst hk;exact⟨G_,λg h=>by simpa using h⟩
  .rw[aJ!];refine⟨?_,λg h=>?_⟩
   .rw[HZ];exact HP _ i1
   .rw[HZ]at h ⊢;obtain e|e:=HQ.mp h
    .exact HQ.mpr (.inl e)
    .exact HP _ (i2 g e)
def tH(f:Str)(v:V):∀fs:List dE!,(iU!).length<=bv_+1
 |[]=>by simp[Lg]
 |(k,x)::r=>by
  have ih:=tH f v r;rw[mN!];by_cases hk:k=f
  .rw[aY!,IH,IH];omega
  .rw[aJ!,IH,IH];omega
def Ol.some_of{v:V}{o:mN_}(r:Ol dG_ o):∃u,o=some u/\Bs v u:=by
 cases o with
 |none=>exact(iV!).elim
 |some u=>exact⟨u,rfl,r⟩
def Ol.none_of{o:mN_}(r:Ol none o):o=none:=by
 cases o with
 |none=>rfl
 |some u=>exact(iV!).elim
def b5s{v:V}{u:x6!}(r:by!):W.handedIn u=true:=by
 cases v with
 |non=>cases (show u=dD_ from r);rfl
 |bl b=>cases (show u=Value.bool b from r);rfl
 |int i=>obtain⟨t,e⟩:=ta!;cases e;rfl
 |str x=>obtain⟨t,e⟩:=ta_;cases e;rfl
 |byt b=>obtain⟨t,e⟩:=(show∃t,u=Value.bytes b t from r);cases e;rfl
 |flt b=>obtain⟨t,e⟩:=(show∃t,u=Value.float b t from r);cases e;rfl
 |ref a=>cases (show u=Value.ref a from r);rfl
 |ty n=>cases (show u=Value.type n from r);rfl
section
variable{P:x4!}{w:x5!}{H H':Hp}{h h':Heap}{a C dx:xz!}{fs vf:List (Str×V)}
def a3q(hok:bw!)(e:iW!):∃mA,Vp h a dx C mA/\qD!/\PySem.Within mA lD!/\bv_<=1000/\H dx=some f0_:=by obtain⟨d,z,ne,ob,mA,n,r,q⟩:=(show Fb P w H h a eY_ from hok a _ e);exact⟨mA,⟨ob,n,ne⟩,r,q,z,d⟩
end
structure Vb(K:xB!)(C:xz!):Prop where
 pg:W.plainGet K C Str.empty=true
 hd:W.hasDictIn K C=true
 po:W.plainOver K C=true
 sa:W.findIn K az_ "__setattr__"=some s2_
def Vb.get{K:xB!}{C:xz!}(c:Vb K C)(f:Str):W.plainGet K C f=true:=c.pg
def Eg(K:xB!)(C:xz!)(f:Str):Prop:=W.findIn K az_ f=some none
def Eg.taker{K:xB!}{C:xz!}{f:Str}(n:Eg K C f):W.takerIn K C f=some none:=by unfold W.takerIn;rw[show W.findIn K az_ f=some none from n];rfl
structure Ws(K:xB!)(C:xz!)(m:Str)(f:xz!):Prop where
 at_:W.findIn K az_ m=some eX_
 fn:W.isFn K aj_=true
 kp:W.keepIn K aj_=true
section
variable{X:Cx}{J:List (Addr×Obj)}{Z:St}{H:Hp}{s:xA!}{a C dx:xz!}{fs:List (Str×V)}{f:Str}{v:V}{A:x9!}{E:Value->Shared->Prop}
def b0i{b:Bool}{Q:p_}(I:d!)(e:iW!)(c:dV_)(n:Eg X.K C f)(l:fs.lookup f=some v)
  (h:∀u s',Inv X J Z H s'->Bs v u->Q u s'):wpAny e_ A (getAttr ae! f b) Q E s:=by
 obtain⟨mA,b7,r,_,_,_⟩:=a3q I.hok e;obtain⟨u,hu,ru⟩:=Ol.some_of (v:=v) (o:=mA f) (by rw[<-l];exact r f);exact c4o I.kIn b7 (c.get f) c.hd n hu (b5s ru) (h u _ mP_ ru)
def oZ{m:Str}{pl:dU_}{Q:s1_}(I:d!)(e:iW!)(c:dV_)(k:Ws X.K C m g)(l:fs.lookup m=none)
  (h:Q (.ref g,bj!) s):wpAny e_ A (getMethod ae! m pl) Q E s:=by
 obtain⟨mA,b7,r,_,_,_⟩:=a3q I.hok e;have hn:mA m=none:=Ol.none_of (by rw[<-l];exact r m);exact c0j I.kIn b7 (c.get m) k.at_ k.fn hn h
def a8u{y:V}{u:x6!}{Q:cV!}(I:d!)(e:iW!)(c:dV_)(n:Eg X.K C f)(hl:bv_<1000)(ry:Bs y u)
  (h:∀s',Inv X J Z (upd H a tf!) s'->Q () s'):wpAny e_ A (setAttr ae! f u) Q E s:=by
 obtain⟨mA,b7,r,wi,_,ho⟩:=a3q I.hok e;have hz:(lD!).length<=sizeLine:=by rw[IF,JY];omega
 refine c2k I.kIn b7 c.sa c.po n.taker c.hd wi hz λh' O' sb=>h _ ?_;have hd:∃o,h'.get? dx=some o:=let⟨o,_,_,e',_⟩:=O'.ns;⟨o,e'⟩;refine I.write (x:=a) (e:=dx) tf_ mR_ (λb q hb z=>(sb.2 b hb).trans z) hd ?_;refine⟨by rw[bC b7.ne];exact ho,?_,b7.ne,O'.obj,_,O'.ns,λg=>?_,λg hg=>?_⟩
 .have:=tH f y fs;omega
 .show Ol ((Lg f y fs).lookup g) ti!;rw[tE];by_cases q:g=f
  .rw[IA q,IA q];exact ry
  .rw[HR q,HR q];exact r g
 .by_cases q:g=f
  .rw[q];exact(sH f y fs).1
  .refine(sH f y fs).2 g (wi g λz=>hg ?_);show ti!=none;rw[HR q];exact z
def Inv.made(I:d!):Inv X J Z (upd (upd H s.heap.objs.size (.own ae_)) ae_ (.ins C s.heap.objs.size []))
  {s with heap:=(eY!).push iT_}:=by
 have e1:(eY!).get? q_=some iT!:=IU s.heap rfl;have e2:((eY!).push iT_).get? ae_=some iT_:=by
  have:=IU eY! (o:=W.instObj C q_) rfl;rwa[OL]at this
 have e3:(eY!).Ns s.heap.objs.size (λ_=>none):=⟨iT!,#[],_,e1,rfl,(λe he=>absurd he d_),gw!⟩;have I1:=I.laid (a:=q_) (o:=.own ae_) (h':=s.heap.push iT!) (t':=s.toks) tk_ x_ ⟨_,e1⟩;refine I1.laid (a:=q_+1) (o:=.ins C s.heap.objs.size []) (t':=s.toks) tk_ (PH (OL _ _)) ?_;have ne:q_≠q_+1:=JK (QC _);refine⟨by rw[bC ne,bV],JU _,ne,e2,λ_=>none,(Heap.Ns1.of_empty e3).at λo q=>HS _ q,λ_=>iX!,λy hy=>absurd rfl hy⟩
def c5o{prog:x4!}{w:x5!}{e:Expr}{f:Str}{pos:Pos}{s:xA!}{Q:p_}(hb:attributeBase e f env (eval e env)=eval e env)
  (h:wpAny r_ A (eval e env) (λo aj=>wpAny r_ A (getAttr o f true) Q E aj) E s):wpAny r_ A (eval tm! env) Q E s:=
 Attribute_any_ h (by rw[arm_eval_Attribute,hb])
end
def EN(K:xB!)(ta:TE)(f:Str):TE:=λZ H Q=>ta Z H λx H1=>∃a C dx fs v,x=.ref a/\H1 a=some eY_/\Vb K C/\Eg K C f/\fs.lookup f=some v/\Q v H1
def ET(K:xB!)(ta tv:TE)(f:Str):TS:=λD Z H=>tv Z H λy H1=>ta Z H1 λx H2=>∃a C dx fs,x=.ref a/\H2 a=some eY_/\Vb K C/\Eg K C f/\bv_<1000/\
 D.nx Z (upd H2 a tf!)
section
variable{X:Cx}{o e value:Expr}{f:Str}{pos ig tpos:Pos}{ta tv:TE}
def c7j(he:PE X e ta)(hb:attributeBase e f X.env eJ_=eval e X.env):PE X tm! (EN X.K ta f):=by intro J s Z H Q I h;refine c5o hb (dO c4_ λu s1 ⟨x,H1,I1,rx,a,C,dx,fs,v,ex,ea,c,n,l,q⟩=>?_);subst ex;obtain rfl:u=Value.ref a:=rx;exact b0i I1 ea c n l λu' s2 I2 ru=>⟨v,H1,I2,ru,q⟩
def c7d(ha:mS!)(hv:PE X value tv)(hs:swapsWith value (some (.Attribute o f ig)) pos.line X.env=pure false):PS X (.Assign [.Attribute o f ig] value pos) (ET X.K ta tv f):=by intro J s Z H D I h;refine plainObj_wpAny_Assign_Attribute (dO (hv J s Z H _ I h) λu s1 ⟨y,H1,I1,ry,q⟩=>dO (ha J s1 Z H1 _ I1 q) λov s2 ⟨x,H2,I2,rx,a,C,dx,fs,ex,ea,c,n,l,q2⟩=>?_) hs;subst ex;obtain rfl:ov=Value.ref a:=rx;exact a8u I2 ea c n l ry λs3 I3=>⟨Z,_,I3,q2⟩
def c6d{pl:dU_}{m:Str}{ag:Pos}{J:n_}{s:xA!}{Z:St}{H:Hp}{Q:p_}{te:TE}(he:cx!)(I:d!)
  (h:te Z H λx H1=>∃a C dx fs g,x=.ref a/\H1 a=some eY_/\Vb X.K C/\Ws X.K C m g/\fs.lookup m=none/\
   ∀s1,Inv X J Z H1 s1->wpAny e_ X.A (callWith pos (.ref g) bj! tn_ eZ_) Q X.xe s1)
  (ht:eval tp! X.env=(do
   let ov <-eval e X.env
   standAt gx_
   let(f,first) <-holding [ov] gy!
   callWith pos f first tn_ eZ_)):
  wpAny e_ X.A (eval tp! X.env) Q X.xe s:=by
 refine W.methodCall_KW (pl:=pl) (dO c4_ λu s1 ⟨x,H1,I1,rx,a,C,dx,fs,g,ex,ea,c,k,l,q⟩=>?_) ht;subst ex;obtain rfl:u=Value.ref a:=rx;exact oZ I1 ea c k l (q s1 I1)
end
end L2
namespace L2
open PySem PySem.Spec PyProof.Rows
structure Ak(k:Nat)(A:x9!):Prop where
 hd:A.handled=none
 dp:A.depth+3*k+5<recursionLimit
 un:A.units+16*k+200<cLine
def Ak.mono{j k:Nat}{A:x9!}(r:gy_)(h:j<=k):Ak j A:=⟨r.hd,by have:=r.dp;omega,by have:=r.un;omega⟩
def Ak.deeper{k:Nat}{A:x9!}(r:Ak R_ A)(env:Env):Ak k (A.deeper env):=
 ⟨r.hd,by have:=r.dp;show A.depth+1+3*k+5<_;omega,by have:=r.un;show A.units+3+16*k+200<_;omega⟩
def Ak.in1{k:Nat}{A:x9!}(r:Ak R_ A):Ak k A.in1:=
 ⟨r.hd,by have:=r.dp;show A.depth+3*k+5<_;omega,by have:=r.un;show A.units+1+16*k+200<_;omega⟩
def b0c{A:x9!}{C:xz!}{kw:dV!}:(iY!).depth=A.depth+1:=by first|rfl|simp[Around.under,Code.weight,Code.isCreation,Code.isGuard,Code.isCaller,Code.frames,Code.isFrame,guardIds]
def b0b{A:x9!}{C:xz!}{kw:dV!}:(iY!).units=A.units+1:=by first|rfl|simp[Around.under,Code.cUnits,Code.frames,Code.isFrame]
def Ak.make{k:Nat}{A:x9!}(r:Ak R_ A)(C:xz!)(us:i!)(kw:dV!):Ak k iY!:=
 ⟨r.hd,by have:=r.dp;rw[b0c];omega,by have:=r.un;rw[b0b];omega⟩
def Ak.depth{k:Nat}{A:x9!}(r:gy_):A.depth<recursionLimit:=by have:=r.dp;omega
def Ak.units{k:Nat}{A:x9!}(r:gy_):A.units+64<cLine:=by have:=r.un;omega
def Ak.units0{k:Nat}{A:x9!}(r:gy_):A.units<cLine:=by have:=r.un;omega
def AC:TA:=λ_ H Q=>Q [] H
def BQ(ta:TE)(tr:TA):TA:=λZ H Q=>ta Z H λx H1=>tr Z H1 λxs H2=>Q (x::xs) H2
section
variable{X:Cx}{e:Expr}{es:List Expr}{te:TE}{t:TA}{pos:Pos}
def gA:PA X [] AC:=λ_ _ _ _ H Q I h=>OY ⟨[],H,I,.nil,h⟩
def dY(ha:cx!)(L:gz!)(hs:aB_:=by rfl):PA X aO! (BQ te t):=by intro pos J s Z H Q I h;rw[hs];show wpAny _ _ (spliced (e0_::backTo pos l2_)) _ _ s;refine MO (dO b6_ λu s1 ⟨x,H1,I1,r1,q1⟩=>?_);exact dO (L pos J s1 Z H1 _ I1 q1) λus s2 ⟨xs,H2,I2,r2,q2⟩=>⟨x::xs,H2,I2,.cons r1 r2,q2⟩
def EF(t:TA):TE:=λZ H Q=>t Z H λxs H1=>k_<=sizeLine/\∀p,H1 p=none->Q c9_ (upd H1 p bJ_)
def EK(t:TA):TE:=λZ H Q=>t Z H λxs H1=>k_<=sizeLine/\∀p,H1 p=none->Q c9_ (upd H1 p R!)
def b8b {x1}(h:gz!):PE X tt! (EF t):=by intro J s Z H Q I hq;refine wpAny_Tuple_spliced tu!;have hf:H1 E!=none:=I1.hok.fresh x_;refine⟨.ref E!,upd H1 s1.heap.objs.size bJ_,tv!,rfl,q _ hf⟩;exact⟨z,us,r,⟨_,dO_,rfl,_,rfl⟩⟩
def vU(h:gz!):PE X iZ! (EK t):=by intro J s Z H Q I hq;refine wpAny_List_spliced tu!;have hf:H1 E!=none:=I1.hok.fresh x_;refine⟨.ref E!,upd H1 s1.heap.objs.size R!,tv!,rfl,q _ hf⟩;exact⟨z,us,0,r,dO_⟩
end
abbrev Sp:=List V->Hp->VK->XK->Prop
abbrev Wv:=List Env->Hp->Shared->XK->Value->Shared->Prop
structure Rm(P:x4!)(w:x5!)(K:xB!)(mg:y_)(base:Heap)(A:x9!)(outer:aw_)(s:xA!)(H:Hp):Prop where
 frames:A.frames=some outer
 mod:Mod K mg base
 bs:∀b o,base.get? b=some o->s.heap.get? b=some o/\H b=none
 bsz:base.objs.size<=q_
 funs:s.heap.FunFrames base outer
 frf:∀b∈frs outer,H b=none
 hok:Om P w H s.heap
 bare:AllBare s.gens
def CE(outer:aw_)(P:x4!)(w:x5!)(H:Hp)(s:xA!)(Q:VK)(u:x6!)(s':xA!):Prop:=
 ∃v H',s'.os=s.os/\AllBare s'.gens/\Un (frs outer) [] H H' s.heap s'.heap/\Om P w H' s'.heap/\Bs v u/\Q v H'
def CR(CX:Wv)(outer:aw_)(P:x4!)(w:x5!)(H:Hp)(s:xA!)(Q:VK)(E:XK)(r:Result)(s':xA!):Prop:=
 match r with
 |.ok (.ret u)=>CE outer P w H s Q u s'
 |.ok _=>False
 |.error e=>CX outer H s E e s'
structure Fj(P:x4!)(w:x5!)(K:xB!)(mg:y_)(base:Heap)(CX:Wv)(k:Nat)(f:xz!)(fd:FuncData)(ps:p!)(sp:Sp):Prop where
 len:∀vs H Q E,sp vs H Q E->bB_=T_
 run:∀(A:x9!) (outer:aw_) (s:xA!) (H:Hp) (args:Args) (us:i!) (vs:l_) (Q:VK) (E:XK),Ak k A->Rm P w K mg base A outer s H->BindsTo s fd args da!->Bc vs us->sp vs H Q E->
  codeAny L_ A (.call aj_ args) (CR CX outer P w H s Q E) s
def Fj.mono{P:x4!}{w:x5!}{K:xB!}{mg:y_}{base:Heap}{CX:Wv}{j k:Nat}{f:xz!}{fd:FuncData}{ps:p!}{sp:Sp}(F:Fj P w K mg base CX j f fd ps sp)(h:j<=k):
  Fj P w K mg base CX k f fd ps sp:=⟨F.len,λA outer s H args us vs Q E L=>F.run A outer s H args us vs Q E (L.mono h)⟩
def Fj.imp{P:x4!}{w:x5!}{K:xB!}{mg:y_}{base:Heap}{CX:Wv}{k:Nat}{f:xz!}{fd:FuncData}{ps:p!}{sp TZ:Sp}(F:Fj P w K mg base CX k f fd ps sp)
  (h:∀vs H Q E,TZ vs H Q E->sp vs H Q E):Fj P w K mg base CX k f fd ps TZ:=
 ⟨λvs H Q E q=>F.len vs H Q E (h _ _ _ _ q),λA outer s H args us vs Q E L he hb hv hs=>F.run A outer s H args us vs Q E L he hb hv (h _ _ _ _ hs)⟩
def Rm.make{P:x4!}{w:x5!}{K:xB!}{mg:y_}{base:Heap}{A:x9!}{outer:aw_}{s:xA!}{H:Hp}(e:mT_)(C:xz!)(us:i!)(kw:dV!):
  Rm P w K mg base iY! outer s H:=⟨by first|exact e.frames|(simpa[Around.under,Code.envs,Code.isFrame,pushEnvs]using e.frames),e.mod,e.bs,e.bsz,e.funs,e.frf,e.hok,e.bare⟩
def Rm.in1{P:x4!}{w:x5!}{K:xB!}{mg:y_}{base:Heap}{A:x9!}{outer:aw_}{s:xA!}{H:Hp}(e:mT_):
  Rm P w K mg base A.in1 outer s H:=⟨e.frames,e.mod,e.bs,e.bsz,e.funs,e.frf,e.hok,e.bare⟩
section
variable{X:Cx}{J:List (Addr×Obj)}{Z:St}{H:Hp}{s s':xA!}
def Inv.env0(I:d!):Rm X.prog X.w X.K X.mg X.base X.A X.stack s H:=
 ⟨I.ok.frames,I.ok.mod,I.bs,JD I.ok.bsz I.sz,I.stack,I.stkFree,I.hok,I.bare⟩
def Inv.after{Q:VK}{u:x6!}(I:d!)(h:CE X.stack X.prog X.w H s Q u s'):EP X J Z Q u s':=by obtain⟨v,H',os,bare,un,hok,r,q⟩:=h;obtain⟨hh,g,d,t,X3⟩:=s';obtain rfl:X3=s.os:=os;exact⟨v,H',I.call (h':=hh) (g':=g) (d':=d) (t':=t) (ch:=[]) un hok bare (λb z=>absurd z d_),r,q⟩
end
def BR(sp:Sp)(dvs:l_)(E:XK)(t:TA):TE:=λZ H Q=>t Z H λvs H1=>sp da_ H1 Q E
def Zn(C:xz!)(m:Str)(sp:Sp)(dvs:l_)(E:XK)(ta:TE)(t:TA):TE:=λZ H Q=>ta Z H λx H1=>∃a dx fs,x=.ref a/\H1 a=some eY_/\fs.lookup m=none/\
 t Z H1 λvs H2=>sp (x::da_) H2 Q E
def Zo(C:xz!)(sp:Sp)(dvs:l_)(E:XK)(t:TA):TE:=λZ H Q=>t Z H λvs H1=>∀x dx,H1 x=none->H1 dx=none->dx≠x->
 sp (.ref x::da_) mV! tz! E
def Ex(K:xB!)(fd:FuncData)(ps:p!)(ds:i!):Prop:=
 ∀(s:xA!) (us:i!),K.In s.heap->(e1!).length=T_->BindsTo s fd db! (ps.zip e1!)
def Ex.all{K:xB!}{fd:FuncData}{ps:p!}(h:∀us:List Value,ao!=T_->bindArgs fd db!=pure da!):Ex K fd ps []:=λs us _ hl=>by
 rw[JC]at hl ⊢;exact .of_eq (h us hl)
def Mg(CX:Wv)(X:Cx)(E:XK):Prop:=∀(J:n_) (Z:St) (H:Hp) (s:xA!) (e:x6!) (s':xA!),Inv X J Z H s->CX X.stack H s E e s'->X.xe e s'
section
variable{X:Cx}{CX:Wv}{k:Nat}{f C:xz!}{fd:FuncData}{ps:List Str}{sp:Sp}{dvs:List V}{ds:List Value}{E:XK}{x m:Str}{p pos ag:Pos}{e o:Expr}{es:List Expr}{ta:TE}{t:TA}
def a1q{J:n_}{Z:St}{H:Hp}{s:xA!}{Q:VK}(F:dX!)(L:cb_)(hb:dX_)(hd:dY_)(O:dY!)
  (I:d!)(r:eK!)(h:sp da_ H Q E):wpAny e_ X.A (call aj_ us) aN! X.xe s:=by
 have r2:Bc da_ e1!:=r.append hd;have hl:(e1!).length=T_:=by rw[<-r2.length];exact F.len _ _ _ _ h
 refine wpAny_call (RB (F.run X.A X.stack s H db! e1! da_ Q E L I.env0 (hb s us I.kIn hl) r2 h) λr s' hq=>?_);cases r with
 |error e=>exact O J Z H s e s' I hq
 |ok fl=>
  cases fl with
  |ret u=>exact I.after hq
  |next=>exact False.elim hq
  |brk=>exact False.elim hq
  |cont=>exact False.elim hq
def b2g(F:dX!)(L:cb_)(hg:X!)(hm:X.mg x=some aj_)(hk:W.keepIn X.K aj_=true)(hb:dX_)(hd:dY_)(O:dY!)
  (ha:e2!)(be:H!:=by decide)(he:aB_:=by rfl)(az:a7_:=by rfl):
  PE X bC! (BR sp dvs E t):=by
 show"!Q";refine ML mW!;refine W.callWith_K (h₀:=X.base) I.ok.mod.kin hk tC! he az;exact a1q F L hb hd O I1 r q
def c3d{pl:dU_}(he:mS!)(c:dV_)(hm:Ws X.K C m f)(F:dX!)(L:cb_)(hb:dX_)(hd:dY_)(O:dY!)(ha:e2!)
  (bv:aB_:=by rfl)(az:a7_:=by rfl)
  (ht:eval i0! X.env=(do
   let ov <-eval o X.env
   standAt gx_
   let(f,first) <-holding [ov] gy!
   callWith pos f first rC_ eZ_):=by rfl):
  PE X i0! (Zn C m sp dvs E ta t):=by
 show"!<";refine W.callWith_K (first:=bj!) (h₀:=X.base) I.ok.mod.kin hm.kp (dO (ha pos J s1 Z H1 _ I1 q) λus s2 ⟨vs,H2,I2,r,q2⟩=>rE_) bv az;exact a1q (us:=.ref a::us) (vs:=.ref a::vs) F L hb hd O I2 (.cons rfl r) q2
def b8h{pl:dU_}(he:mS!)(c:dV_)(hm:Ws X.K C m f)(F:dX!)(L:cb_)(hb:dX_)(hd:dY_)(O:dY!)
  (ht:eval i1! X.env=(do
   let ov <-eval o X.env
   standAt gx_
   let(f,first) <-holding [ov] gy!
   callWith pos f first mY! eZ_):=by rfl):
  PE X i1! (Zn C m sp dvs E ta AC):=by
 show"!<";exact W.callWith_K0 (first:=bj!) I1.kIn hm.kp (a1q (us:=bj!) (vs:=bj!) F L hb hd O I1 tF_ q)
structure Mk(K:xB!)(C f:xz!):Prop where
 makes:W.makesIn K C=true
 init:W.findIn K az_ "__init__"=some eX_
 fn:W.isFn K aj_=true
 kp:W.keepIn K az_=true
def a5d{J:n_}{Z:St}{H:Hp}{s:xA!}{Q:VK}(M:mY_)(F:dX!)(L:gB!)(hb:dX_)(hd:dY_)
  (O:dY!)(I:d!)(r:eK!)
  (h:∀x dx,H x=none->H dx=none->dx≠x->sp (.ref x::da_) (upd (upd H dx ia_) x mU_) tz! E):
  wpAny e_ X.A (call az_ us) aN! X.xe s:=by
 have hq:=h ae_ s.heap.objs.size tG_ gB_ (JK (QC _));have I2:=Inv.made (C:=C) I;have r2:Bc (V.ref ae_::da_) tH!:=.cons rfl (r.append hd);have hl:(Value.ref ae_::us++ds).length=T_:=by
  have e:=r2.length;rw[F.len _ _ _ _ hq]at e;exact e.symm
 refine wpAny_call (b9n (f:=f) I.kIn M.makes M.init (LW.mp M.fn) (RB (F.run _ X.stack _ _ ⟨Value.ref ae_::us,[]⟩ tH! _ _ E (L.make C us [])
  (I2.env0.make C us []) (hb _ (Value.ref ae_::us) I2.kIn hl) r2 hq) λr s' a9=>?_))
 cases r with
 |error e=>exact O J Z _ _ e s' I2 a9
 |ok fl=>
  cases fl with
  |ret u=>
   obtain⟨v,H',I3,rv,ev,q3⟩:=I2.after a9;subst ev;exact⟨rv,⟨V.ref ae_,H',I3,rfl,q3⟩⟩
  |next=>exact False.elim a9
  |brk=>exact False.elim a9
  |cont=>exact False.elim a9
def c3e(M:mY_)(F:dX!)(L:gB!)(hg:X!)(hm:tJ_)(hb:dX_)(hd:dY_)(O:dY!)
  (ha:e2!)(be:H!:=by decide)(he:aB_:=by rfl)(az:a7_:=by rfl):
  PE X bC! (Zo C sp dvs E t):=by
 show"!Q";refine ML mW!;refine W.callWith_K (h₀:=X.base) I.ok.mod.kin M.kp tC! he az;exact a5d M F L hb hd O I1 r q
def b8i(M:mY_)(F:dX!)(L:gB!)(hg:X!)(hm:tJ_)(hb:dX_)(hd:dY_)(O:dY!)
  (be:H!:=by decide):PE X tK_ (Zo C sp dvs E AC):=by
 show"!Q";refine ML mW!;exact W.callWith_K0 I.kIn M.kp (a5d (us:=[]) M F L hb hd O I .nil h)
end
structure Aj(N P:p!)(sc:Scope):Prop where
 kind:sc.kind=.function
 co:sc.isCoroutine=false
 gen:sc.isGenerator=false
 nd:N.Nodup
 pre:N.take P.length=P
 par:∀x∈P,sc.names.lookup x=some .local\/sc.names.lookup x=some .cell
 nofree:∀y∈sc.names,y.2≠.free
def a0s{kindOf:i2!}{x:Str}:∀{binds:dV!} {m:y_},tL!->bindL kindOf binds m x=m x
 |[],_,_=>rfl
 |(n,v)::r,m,h=>by
  unfold bindL;rw[a0s λw hw=>h w (HP _ hw)];split
  .have:x≠n:=by rintro rfl;exact h v HV
   simp[this]
  .rfl
def a0u{kindOf:i2!}{x:Str}:∀{binds:dV!} {m:y_},tL!->bindC kindOf binds m x=m x
 |[],_,_=>rfl
 |(n,v)::r,m,h=>by
  unfold bindC;rw[a0u λw hw=>h w (HP _ hw)];split
  .rfl
  .have:x≠n:=by rintro rfl;exact h v HV
   simp[this]
def a0t{kindOf:i2!}{x:Str}{v:x6!}:∀{P:p!} {vs:i!} {i:Nat} {m:y_},P.Nodup->P[i]?=some x->vs[i]?=some v->kindOf x=some .local->
  bindL kindOf (P.zip vs) m x=some v
 |[],_,_,_,_,h,_,_=>by simp at h
 |_::_,[],_,_,_,_,h,_=>by simp at h
 |p::P,w::vs,0,m,nd,B,Y,hk=>by
  simp at B Y;subst B;subst Y;show bindL kindOf i2_ m p=_;unfold bindL;rw[a0s λv hv=>(gD!).1 (RY hv).1,aY!];simp
 |p::P,w::vs,i+1,m,nd,B,Y,hk=>by
  show bindL kindOf i2_ m x=_;unfold bindL;exact a0t (i:=i) (gD!).2 tM_ tO! hk
def a0v{kindOf:i2!}{x:Str}{v:x6!}:∀{P:p!} {vs:i!} {i:Nat} {m:y_},P.Nodup->P[i]?=some x->vs[i]?=some v->kindOf x≠some .local->
  bindC kindOf (P.zip vs) m x=some v
 |[],_,_,_,_,h,_,_=>by simp at h
 |_::_,[],_,_,_,_,h,_=>by simp at h
 |p::P,w::vs,0,m,nd,B,Y,hk=>by
  simp at B Y;subst B;subst Y;show bindC kindOf i2_ m p=_;unfold bindC;rw[a0u λv hv=>(gD!).1 (RY hv).1,aJ!];simp
 |p::P,w::vs,i+1,m,nd,B,Y,hk=>by
  show bindC kindOf i2_ m x=_;unfold bindC;exact a0v (i:=i) (gD!).2 tM_ tO! hk
def Mu(N:p!)(vs:l_):St:=vs.map some++List.replicate (i3_ - bB_) none
def Oz(CX:Wv)(P:x4!)(w:x5!)(K:xB!)(mg:y_)(base:Heap)(N:p!)(qual:Str)(scope:Scope)(f:xz!)(cd:x6!)(A:x9!)(outer:aw_)(s:xA!)(H:Hp)(E:XK):Cx where
 prog:=P
 w:=w
 K:=K
 mg:=mg
 base:=base
 A:=A.deeper gE_
 N:=N
 s₀:=s
 H₀:=H
 env:=envOfC qual scope s.heap.objs.size f cd
 outer:=outer
 stack:=envOfC qual scope s.heap.objs.size f cd::outer
 ex:=[]
 calm:=true
 fn:=λ_=>true
 pn:=[]
 xe:=λe s'=>wpAny L_ (A.deeper gE_) (leaving gE_ e) (λ_ ya=>CX outer H s E e ya) (λe' ya=>CX outer H s E e' ya) s'
def a7z{sc:Scope}{n:Nat}{x:Str}(h:sc.names.lookup x=some .cell):∃c,(cellsFrom n sc.names []).lookup x=some c:=by have q:=W.cellsFrom_some sc.names n [] iv!;exact PV.mp q
def b5p{CX:Wv}{P:x4!}{w:x5!}{K:xB!}{mg:y_}{base:Heap}{ps:p!}{scope:Scope}{f:xz!}{A:x9!}{outer:aw_}{s:xA!}{H:Hp}{E:XK}{vs:l_}
  (S:Aj N ps scope)(hd:e3_)(e0:mT_)(hl:bB_=T_)(r:eK!)
  (x:InCallC s s.heap.objs.size (bindL (gE_).kindOf da! λ_=>none) tQ! (bindC (gE_).kindOf da! λ_=>none) s1):
  Inv tR_ [] gF! H s1:=by
 have az:T_<=i3_:=by have:=congrArg List.length S.pre;rw[OB]at this;omega
 obtain⟨B,tk,rfl,hk⟩:=x.done;have rh:∀b:Addr,b∉(tR_).ex:=λb z=>absurd tS_ d_;refine⟨⟨e0.mod,S.kind,rfl,rfl,IQ _,λy z c B Y=>?_,λy hy=>?_,λy c _ h=>?_,λ_=>hd,Around.frames_deeper e0.frames,.inr bN_,tU_,e0.bs,e0.bsz,λb _ _=>rh b,tU_,e0.funs,e0.frf⟩,
  rfl,e0.bare,Un.kept hk,⟨_,x.toInCall.ns,λi y v B Y h3=>?_⟩,λy c h=>⟨_,x.cell y c h⟩,e0.hok.fresh x_,λy c h=>?_,λp hp=>absurd (show p∈([]:List eF!)from hp) d_,e0.hok.kept hk,?_⟩
 .exact name_of_addr x.apart (LL B) (LL Y)
 .have hy:scope.names.lookup y=some .cell\/scope.names.lookup y=some .free:=hy;obtain hy|hy:=hy
  .exact a7z hy
  .exact absurd rfl (S.nofree _ (LL hy))
 .exact NC tW_
 .have hi:i<bB_:=by
   unfold Mu at Y;by_cases hi:i<bB_
   .exact hi
   .rw[e4_]at Y;rw[OJ]at Y;split at Y<;>cases Y
  have ha:vs[i]?=some v:=by
   unfold Mu at Y;rw[KO gF_,JG]at Y;cases e:vs[i]? with
   |none=>rw[e]at Y;cases Y
   |some a=>rw[e]at Y;cases Y;rfl
  obtain⟨u,hu,rv⟩:=r.get ha;have hp:ps[i]?=some y:=by
   rw[<-S.pre,List.getElem?_take_of_lt a!];exact B
  have T':ps.Nodup:=by rw[<-S.pre];exact S.nd.sublist (List.take_sublist _ _)
  refine⟨u,rv,?_⟩;obtain k|k:=S.par y (NW hp)
  .exact .inl ⟨k,a0t T' hp hu k⟩
  .obtain⟨c,e⟩:=a7z (n:=q_+1) k;refine .inr ⟨.inl k,c,e,?_⟩;have q:=x.cell y c e;rw[a0v T' hp hu (by show scope.names.lookup y≠_;rw[k];decide)]at q;exact q
 .exact e0.hok.fresh (NC tW_)
 .unfold Mu;show _=i3_;rw[IL,IF,NG];omega
def d1q{CX:Wv}{P:x4!}{w:x5!}{K:xB!}{mg:y_}{base:Heap}{k:Nat}{f:xz!}{name:Str}{params:Arguments}{body:b6!}{kV:x6!}{an od:a8_}
  {du:cc!}{ps:p!}{sp:Sp}(lk:K.lookup f=some ⟨oc,od,.func tY!,du⟩)(b6:i5_)(S:Aj N ps scope)
  (len:t0!)
  (pv:∀(A:x9!) (outer:aw_) (s:xA!) (H:Hp) (vs:l_) (Q:VK) (E:XK),Ak k (A.deeper (envOfC qual scope s.heap.objs.size f af))->sp vs H Q E->
   ∃t,Uv m2! body t/\t {nx:=λ_ H'=>Q .non H',rt:=Q} gF! H):
  Fj P w K mg base CX R_ f tY! ps sp:=by
 refine⟨len,λA outer s H args us vs Q E L e0 hb r je=>?_⟩;have hl:=len _ _ _ _ je;have KX:K.In s.heap:=e0.mod.kin.keeps λb o e=>(e0.bs b o e).1;have a7:s.heap.NoLimit:=e0.mod.nolimit.keeps λb o e=>(e0.bs b o e).1;have cg:∀y∈ps.zip us,scope.names.lookup y.1=some .local\/(scope.names.lookup y.1=some .cell/\((tQ!).lookup y.1).isSome=true):=λ⟨n,v⟩ hy=>by
  obtain q|q:=S.par n (RY hy).1
  .exact .inl q
  .exact .inr ⟨q,W.cellsFrom_some _ _ _ (.inl q)⟩
 refine codeAny_call_function L.depth (KX _ _ lk) rfl S.co S.gen rfl (W.codeRec_of KX b6) (hb _ _ _ _ ?_);refine wpAny_newFunctionEnv_cells S.kind cg λenv he s1 x=>?_;subst he;refine⟨a7.keeps x.toInCall.keep,codeAny_func ?_⟩;obtain⟨t,ht,hq⟩:=pv A outer s H vs Q E (L.deeper _) je;have I:Inv m2! [] gF! H s1:=b5p S L.hd e0 hl r x;refine KS (ht [] s1 gF! H _ I hq) (λfl s' hs=>?_) λe s' hs=>hs;have fin:∀{σ:St} {H':Hp} {v:V} {u:x6!},Inv m2! [] σ H' s'->Bs v u->Q v H'->CE outer P w H s Q u s':=
  λ{σ H' v u} ac rv q=>⟨v,H',ac.os,ac.bare,ac.base,ac.hok,rv,q⟩
 cases fl with
 |ret u=>
  obtain⟨v,σ,H',ac,rv,q⟩:=hs;exact fin ac rv q
 |next=>
  obtain⟨σ,H',ac,q⟩:=hs;exact fin (v:=V.non) (u:=dD_) ac rfl q
 |brk=>
  obtain⟨_,_,_,q⟩:=hs;exact False.elim q
 |cont=>
  obtain⟨_,_,_,q⟩:=hs;exact False.elim q
end L2
namespace L2
open PySem PySem.Spec PyProof.Rows
section
variable{X:Cx}{x:Str}{p pos:Pos}{e:Expr}{es:List Expr}{t:TA}{id T:String}{r:List V->Hp->VK->Prop}
def GA(r:dQ!)(t:TA):TE:=λZ H Q=>t Z H λvs H1=>r vs H1 Q
def vV(hc:mR!)(hg:X!)(hm:c2!)(hv:m5!)(ha:e2!)(hn:c2_:=by decide)(be:H!:=by decide)
  (he:aB_:=by rfl)(az:a7_:=by rfl):PE X bC! (GA r t):=by
 show"!Q";refine ML t3!;exact PyProof.Rows.callWith_builtin1 t3_ he az
def b4p(hc:Jn X d1_ r)(hg:X!)(hm:c2!)(hv:m6!)(ha:e2!)(hn:c2_:=by decide)(be:H!:=by decide)
  (he:aB_:=by rfl)(az:a7_:=by rfl):PE X bC! (GA r t):=by
 show"!Q";refine ML t3!;exact LM t3_ he az
end
end L2
namespace HT
open PySem PyProof.Rows
nonrec def lexLt:List Int->List Int->Bool
 |[],[]=>false
 |[],_::_=>true
 |_::_,[]=>false
 |x::xs,y::ys=>if x=y then lexLt xs ys else decide (x<y)
def lexLt_cons(x y:Int)(xs ys:z!):lexLt (x::xs) (y::ys)=if x=y then lexLt xs ys else decide (x<y):=rfl
def lexLt_nil_nil:lexLt [] []=false:=rfl
def wP(y:Int)(ys:z!):lexLt [] (y::ys)=true:=rfl
def wQ(x:Int)(xs:z!):lexLt (x::xs) []=false:=rfl
def c0q(A:x9!)(s:xA!)(a:Int)(t:Tok)(c:Int)(u:Tok):∃e,SeqAt.EqAt A s gG_ m7_ e/\(e=true↔a=c):=
 ⟨(a==c),QA a t c u,G_⟩
section
open PySem.SeqAt
open PySem.AutoSeq1 (wpAny_loadPart')
open PySem.MeetsSeq PySem.MeetsSeq2 PySem.MeetsSeq3
end
section
variable{prog:x4!}{w:x5!}{A:x9!}{E:Value->Shared->Prop}{s:xA!}
def cat_tup{t b:xz!}{vs ws:i!}{Q:p_}(ht:IsTup s.heap t cA!)(hb:IsTup s.heap b ws.toArray)(hv:vs≠[])
  (B:ws=[]->Q i7! s)(Y:ws≠[]->Q c6! {s with heap:=s.heap.push {cls:=.type "tuple",data:=.seq (vs++ws).toArray}})
  (hsz:bB_+m9!<=sizeLine):wpAny r_ A (binaryOp .Add i7! d2!) Q E s:=by
 obtain⟨⟨cls,dd,data,sl⟩,ho,hc,n,hd⟩:=id ht;obtain⟨⟨UA,lh,data2,jf⟩,ii,jg,n2,jh⟩:=id hb;simp only at hc hd jg jh;subst hc hd jg jh;have e:cA!++ws.toArray=(vs++ws).toArray:=by simp
 by_cases hw:ws=[]
 .exact concat_meets i7_ i8! noFill_tuple_add seq_tuple_add QF PZ (PU _ _)
   (tuple_addW1 t b vs.toArray ws.toArray n n2 dd lh sl jf i8_ (by simp[hw])) ⟨ho,ii,B hw⟩
 .refine concat_meets i7_ i8! noFill_tuple_add seq_tuple_add QF PZ (PU _ _)
   (tuple_addW2 t b vs.toArray ws.toArray n n2 dd lh sl jf i8_ i9_ (by rw[HX,HX];exact hsz)) ⟨ho,ii,?_⟩
  rw[e];exact Y hw
nonrec def sIx(n d:Nat):Option Int->Nat
 |none=>d
 |some v=>if v<0 then(nb_).toNat else min v.toNat n
def sIx_none(n d:Nat):sIx n d none=d:=rfl
def sIx_nat(n d k:Nat):sIx n d (some (k:Int))=min k n:=by show(if(k:Int)<0 then((k:Int)+(n:Int)).toNat else min (k:Int).toNat n)=min k n;rw[HR a!,LK]
def c6y(n d:Nat)(hd:d<=n)(o:a9_):sIx n d o<=n:=by
 cases o with
 |none=>exact hd
 |some v=>
  show t6_<=n;by_cases hv:v<0
  .rw[IA hv];omega
  .rw[HR hv];exact Nat.min_le_right _ _
def b3i(v:Int)(n d:Nat):t8!=((sIx n d dG_:Nat):Int):=by
 show t8!=((t6_:Nat):Int);by_cases hv:v<0
 .simp only[IA hv];omega
 .simp only[HR hv];omega
def b1a(lo hi:a9_)(n:Nat):Builtin.Slice.sliceAdjust lo hi 1 (n:Int)=(ja!,t9!):=by
 have B:¬((1:Int)<0):=by omega
 unfold Builtin.Slice.sliceAdjust;simp only[B,JM];refine Prod.ext ?_ ?_
 .cases lo with
  |none=>rfl
  |some v=>exact b3i v n 0
 .cases hi with
  |none=>rfl
  |some v=>exact b3i v n n
def a9k(i j:Nat):Builtin.Slice.slicePlaces (i:Int) (j:Int) 1=j - i:=by
 unfold Builtin.Slice.slicePlaces;have B:(1:Int)>0:=by omega
 simp only[B,JT,Int.ediv_one];split<;>omega
def vH{v:x6!}{o:a9_}{Q:Option Int->Shared->Prop}(p:IsPart v o)(h:Q o s):wpAny r_ A (Builtin.Slice.slicePartIndex v) Q E s:=by
 cases p with
 |none=>exact slicePart_none h
 |int i t=>exact slicePart_int h
def rD{lo hi:a9_}{n:Nat}{Q:Int×Int×Nat->Shared->Prop}(hs:ua_)(pl:IsPart vl lo)(pu:IsPart vu hi)
  (h:Q (ja!,1,sIx n n hi - sIx n 0 lo) s):wpAny r_ A (Builtin.Slice.sliceApplied ja_ (pure (n:Int))) Q E s:=by
 obtain⟨os,gr,px,vn⟩:=id hs;unfold Builtin.Slice.sliceApplied Builtin.Slice.sliceFields;refine HL (HL (LD gr vn (x:=vl) rfl (HL (LD gr vn (x:=vu) rfl (HL (LD gr vn (x:=.none) rfl af!))))));refine HL (slicePart_none ?_);show wpAny _ _ (if((1:Int)==0)=true then _ else _) _ _ s;rw[HR c_];refine HL (vH pl (HL (vH pu (HL af!))));show wpAny _ _ (match Builtin.Slice.sliceAdjust lo hi 1 (n:Int)with|(lo,hi)=>pure (lo,(1:Int),Builtin.Slice.slicePlaces lo hi 1)) _ _ s;rw[b1a lo hi n];show wpAny _ _ (pure (ja!,(1:Int),Builtin.Slice.slicePlaces ja! t9! 1)) _ _ s;rw[a9k];exact HN h
def b7x(xs:W!)(i k:Nat):((List.range k).filterMap λ(m:Nat)=>xs[(nd!).toNat]?).toArray=((xs.toList.drop i).take k).toArray:=by
 have e:(λ(m:Nat)=>xs[(nd!).toNat]?)=λm=>xs[i+m]?:=by
  funext m;have:(nd!).toNat=i+m:=by omega
  rw[this]
 rw[e];have:=pick_run xs i k;rw[List.filterMap_map]at this;have e2:((λx=>xs[x]?)∘λx=>i+x)=λm=>xs[i+m]?:=rfl;rw[e2]at this;rw[this]
def getItem_tuple_cut{t:xz!}{items:W!}{lo hi:a9_}{Q:p_}(ht:IsTup s.heap t items)(hs:ua_)(pl:IsPart vl lo)(pu:IsPart vu hi)
  (hw:¬(sIx items.size 0 lo=0/\sIx items.size items.size hi=bk_))
  (h:Q c6! {s with heap:=s.heap.push {cls:=.type "tuple",data:=.seq (nd_).toArray}})
  (hsz:ne!):wpAny r_ A (getItem i7! ja_) Q E s:=by
 have vo:sizeOk (.seq (nd_).toArray):=by
  show(nd_).toArray.size<=sizeLine;rw[HX,OB,RQ,JV];omega
 have hj:sIx items.size items.size hi<=bk_:=c6y _ _ x_ hi;obtain⟨os,gr,px,vn⟩:=id hs;have X4:s.TypeIs ja_ "slice":=⟨os,gr,px⟩;unfold getItem
 try with_reducible refine JS ?_
 first|refine HL af!|skip
 refine HL (wpAny_sequenceKey ht.typeIs c_ ?_);refine HL (KC (name:=ug_) ht.typeIs ON
  (JO ON ht.typeIs entry_tuple_getitem ?_ (args_tuple_getitem _ _)))
 show wpAny _ _ (Builtin.Tuple.tupleItemsOf i7!>>=_) _ _ s;refine HL (tupleItemsOf_ ht ?_);refine HL (wpAny_typeOf X4 ?_);rw[IA c_];refine HL (rD hs pl pu ?_);have m8:¬(uj!=true):=by
  intro q;rw[IZ,IZ]at q;have q1:uj_=0:=eq_of_beq q.1.1;have q2:sIx items.size items.size hi - sIx items.size 0 lo=bk_:=eq_of_beq q.2;exact hw ⟨t_,t_⟩
 show wpAny _ _ (if uj!=true then _ else _) _ _ s;rw[HR m8,b7x]
 first
  |exact HL (m:=jc_) (KY jd! vo)
  |exact HL (m:=jc_) (KY (HL (HN jd!)) vo)
  |exact HL (HL (m:=jc_) (KY (HN jd!) vo))
  |exact HL (HL (m:=jc_) (KY jd! vo))
end
end HT
namespace L2
open PySem PySem.Spec PyProof.Rows
abbrev TO:=St->Hp->(Option Int->Hp->Prop)->Prop
def PO(X:Cx)(e:Option Expr)(t:TO):Prop:=
 ∀(J:n_) (s:xA!) (Z:St) (H:Hp) (Q:um_),Inv X J Z H s->t Z H Q->
  wpAny e_ X.A (evalPart e X.env) (λu s'=>∃o H',Inv X J Z H' s'/\IsPart u o/\Q o H') X.xe s
def Yo:TO:=λ_ H Q=>Q none H
def BM(t:TE):TO:=λZ H Q=>t Z H λx H1=>∃i,x=.int i/\Q (some i) H1
def xH{ns:z!}:∀{us:i!},Bc cd! us->IntsAre us ns:=by
 induction ns with
 |nil=>intro us r;rw[NE]at r;cases r;exact .nil
 |cons n ns ih=>
  intro us r;rw[HZ]at r;cases r with
  |cons r1 r2=>
   obtain⟨t,e⟩:=r1;subst e;exact .cons n t (ih r2)
section
variable{X:Cx}{e:Expr}{te:TE}{lo hi:Option Expr}{tl th:TO}{pos p2:Pos}
def c2z:PO X none Yo:=by intro J s Z H Q I h;rw[evalPart_none];exact HN ⟨none,H,I,.none,h⟩
def c2y(h:cx!):PO X iw_ (BM te):=by intro J s Z H Q I hw;rw[evalPart_some];refine dO l5! λu s1 ⟨x,H1,I1,r1,q1⟩=>?_;obtain⟨i,rfl,q⟩:=q1;obtain⟨t,rfl⟩:=r1;exact⟨M!,H1,I1,.int i t,q⟩
def Zw(X:Cx)(r:jd_):Prop:=
 ∀(J:n_) (s:xA!) (Z:St) (H:Hp) (x:V) (v vl vu:x6!) (lo hi:a9_) (sl:xz!) (Q:VK),Inv X J Z H s->Bs x v->s.heap.IsSliceOf sl vl vu .none->IsPart vl lo->IsPart vu hi->r x lo hi H Q->
  ∃T id,typeLookup d1_ "__getitem__"=pure (some e5!)/\s.TypeIs v T/\wpAny e_ X.A (getItem v ja_) aN! X.xe s
def Zw.or{r r':jd_}(h:Zw X r)(h':Zw X r'):Zw X (λx lo hi H Q=>r x lo hi H Q\/r' x lo hi H Q):=by
 intro J s Z H x v vl vu lo hi sl Q I rx hs pl pu q;obtain q|q:=q
 .exact h J s Z H x v vl vu lo hi sl Q I rx hs pl pu q
 .exact h' J s Z H x v vl vu lo hi sl Q I rx hs pl pu q
def GU(r:jd_)(te:TE)(tl th:TO):TE:=λZ H Q=>te Z H λx H1=>tl Z H1 λl H2=>th Z H2 λu H3=>r x l u H3 Q
def b8d{r:jd_}(L:Zw X r)(he:cx!)(hl:PO X lo tl)(hu:PO X hi th):PE X (.Subscript e ng! pos) (GU r te tl th):=by intro J s Z H Q I h;refine Subscript_ rO!;refine wpAny_Slice (dO (hl J s1 Z H1 _ I1 q1) λvl s2 ⟨l,H2,I2,pl,q2⟩=>dO (hu J s2 Z H2 _ I2 q2) λvu s3 ⟨u,H3,I3,pu,q3⟩=>?_);rw[evalPart_none];refine HN ?_;have I4:Inv X J Z H3 {s3 with heap:=s3.heap.push {cls:=.type "slice",data:=.fields #[vl,vu,.none]}}:=I3.kept (t':=s3.toks) λb ob q=>HS _ q;obtain⟨T,id,hT,ht,hg⟩:=L J {s3 with heap:=s3.heap.push {cls:=.type "slice",data:=.fields #[vl,vu,.none]}} Z H3 x v vl vu l u s3.heap.objs.size Q I4 r1 (Heap.IsSliceOf.new ..) pl pu q3;show wpAny e_ X.A (subscriptTail e ng! v (.ref up!)) aN! X.xe {s3 with heap:=s3.heap.push {cls:=.type "slice",data:=.fields #[vl,vu,.none]}};exact tail_any (ops:=[.ref up!,v]) ht hT hg (by with_unfolding_all rfl)
def Ut(xs:l_)(lo hi:a9_):List V:=(xs.drop ng_).take nh!
def tU(xs:l_)(lo hi:a9_):(gI!).length<=k_:=by unfold Ut;rw[OB,RQ];omega
def EU(K:xB!):V->Option Int->Option Int->Hp->VK->Prop:=λx lo hi H Q=>∃a xs,x=.ref a/\Gc K H a xs/\
 ¬(HT.sIx xs.length 0 lo=0/\HT.sIx xs.length xs.length hi=k_)/\∀p,H p=none->Q c9_ (upd H p (.tup gI!))
def c6w:Zw X (EU X.K):=by
 intro J s Z H x v vl vu lo hi sl Q I rx hs pl pu h;obtain⟨a,xs,rfl,O,hw,q⟩:=h;cases rx;obtain⟨its,r,ht,hz⟩:=I.tuple O;have am:bQ_=k_:=by rw[HX];exact r.length.symm
 refine⟨"tuple",_,ON.lookup,ht.typeIs,?_⟩;refine HT.getItem_tuple_cut ht hs pl pu (by rw[am];exact hw) ?_ (by rw[am];exact hz);rw[am];refine⟨dd!,_,I.laid (t':=s.toks) (o:=.tup gI!) nh_ x_ ?_,rfl,q _ gB_⟩;exact⟨ur!,_,us!,IsTup.new _ _⟩
def Zr(K:xB!):R2:=λx y H Q=>∃a b xs ys,x=.ref a/\y=.ref b/\Gc K H a xs/\Gc K H b ys/\xs≠[]/\k_+ac_<=sizeLine/\
 (ys=[]->Q ae! H)/\(ys≠[]->∀p,H p=none->Q c9_ (upd H p (.tup eD!)))
def Bc.nil_iff{xs:l_}(r:h7_):us=[]↔xs=[]:=by
 cases r with
 |nil=>simp
 |cons _ _=>simp
def c3j:Gs X eV! (Zr X.K):=by intro J s Z H x y v u Q I rx ry h;obtain⟨a,b,xs,ys,rfl,rfl,ha,hb,O,hz,q1,q2⟩:=h;cases rx;cases ry;obtain⟨its,r1,p1,_⟩:=I.tuple ha;obtain⟨gu,r2,p2,_⟩:=I.tuple hb;refine HT.cat_tup p1 p2 (λz=>O (r1.nil_iff.mp z)) (λz=>⟨dW!,H,I,rfl,q1 (r2.nil_iff.mp z)⟩) (λz=>?_) (by rw[<-r1.length,<-r2.length];exact hz);refine⟨dd!,_,I.laid (t':=s.toks) (o:=.tup eD!) nh_ x_ ?_,rfl,q2 (λw=>z (r2.nil_iff.mpr w)) _ gB_⟩;exact⟨by rw[IL];exact hz,_,r1.append r2,IsTup.new _ _⟩
end
end L2
namespace L2
open PySem PySem.Spec PyProof.Rows
def Ea(n:Nat)(i:Int):Option Nat:=if 0<=i then(if i<n then some i.toNat else none)else if -(n:Int)<=i then some (i+n).toNat else none
def Cw{α:Type}(xs:N_)(i:Int):Option α:=(Ea xs.length i).bind λj=>xs[j]?
def b2w{n:Nat}{i:Int}{j:Nat}(h:Ea n i=some j):seqIndex? i n=some j/\j<n/\-(n:Int)<=i/\i<n:=by
 unfold Ea at h;by_cases h0:0<=i
 .rw[IA h0]at h;by_cases B:i<n
  .rw[IA B]at h;have e:i.toNat=j:=JN h;exact⟨by rw[seqIndex_of h0 B,e],t_,t_,B⟩
  .rw[HR B]at h;cases h
 .rw[HR h0]at h;by_cases B:-(n:Int)<=i
  .rw[IA B]at h;have e:(i+n).toNat=j:=JN h;exact⟨by rw[seqIndex_neg a! B,e],t_,B,t_⟩
  .rw[HR B]at h;cases h
def a4g{α:Type}{xs:N_}{i:Int}{v:α}(h:Cw xs i=some v):∃j,seqIndex? i k_=some j/\xs[j]?=some v/\j<k_/\-jg!<=i/\i<k_:=by
 unfold Cw at h;cases e:Ea xs.length i with
 |none=>rw[e]at h;cases h
 |some j=>
  rw[e]at h;obtain⟨B,Y,h3,h4⟩:=b2w e;exact⟨j,B,h,Y,h3,h4⟩
def Qb(b:Expr):Prop:=∀o i,subscripted b false o i=operate [o,i] (getItem o i)
def Wu(X:Cx)(r:R2):Prop:=
 ∀(value gf:Expr) (J:n_) (s:xA!) (Z:St) (H:Hp) (x y:V) (v u:x6!) (Q:VK),Inv X J Z H s->Bs x v->Bs y u->r x y H Q->
  subscripted gf false v u=operate [v,u] (getItem v u)->wpAny e_ X.A (subscriptTail value gf v u) aN! X.xe s
def GN(X:Cx)(id:String)(r:nj_):Prop:=
 ∀(J:n_) (s:xA!) (Z:St) (H:Hp) (x:V) (xs:l_) (v:x6!) (us:i!) (Q:VK),Inv X J Z H s->Bs x v->Bc xs us->r x xs H Q->
  wpAny e_ X.A uy! aN! X.xe s
section
variable{X:Cx}{a b:Expr}{ta tb:TE}{pos:Pos}
def Wu.or{r r':R2}(h:Wu X r)(h':Wu X r'):Wu X sF!:=by
 intro value gf J s Z H x y v u Q I rx ry q hs;obtain q|q:=q
 .exact h value gf J s Z H x y v u Q I rx ry q hs
 .exact h' value gf J s Z H x y v u Q I rx ry q hs
def b8j{r:R2}(L:Wu X r)(ha:a5!)(hb:cw!)(hs:Qb b):PE X nk! iL!:=by intro J s Z H Q I h;exact Subscript_ (c9q ha hb I h λv u s2 x y H2 I2 rx ry q=>L a b J s2 Z H2 x y v u Q I2 rx ry q (hs _ _))
def BZ(K:xB!):R2:=λx y H Q=>∃p xs i v,x=.ref p/\y=.int i/\Fn K H p xs/\Cw xs i=some v/\Q v H
def BX(K:xB!):R2:=λx y H Q=>∃p xs i v,x=.ref p/\y=.int i/\Gc K H p xs/\Cw xs i=some v/\Q v H
def BY:R2:=λx y H Q=>∃z i c,x=.str z/\y=.int i/\jh!<=sizeLine/\Cw z.cps.toList i=some c/\Q gJ! H
def b2v:Wu X (BZ X.K):=by
 intro value gf J s Z H x y v u Q I rx ry h hs;obtain⟨p,xs,i,z,rfl,rfl,hq,he,q⟩:=h;cases rx;obtain⟨t,rfl⟩:=ry;show"!O";obtain⟨j,B,Y,h3,h4,h5⟩:=a4g he;obtain⟨w,ew,ak⟩:=r.get Y;have hl:=aN_;have hn:=sF;have fin:EP X J Z Q w s:=uA!;by_cases h0:0<=i
 .have hj:i.toNat=j:=by
   rw[seqIndex_of h0 h5]at B;exact JN B
  exact item_listR pl.isList h0 a! uA_ fin hs
 .have hj:(i+(bQ_:Int)).toNat=j:=by
   rw[seqIndex_neg a! h4]at B;rw[HX,<-hl];exact JN B
  exact subscriptTail_builtinR (x:=w) pl.isList.typeIs uB_
   (wpAny_getItem_list_neg (Q:=uC_) pl.isList a! uE! a! uA_ ⟨rfl,fin⟩) hs
def c8k:Wu X (BX X.K):=by
 intro value gf J s Z H x y v u Q I rx ry h hs;obtain⟨p,xs,i,z,rfl,rfl,hq,he,q⟩:=h;cases rx;obtain⟨t,rfl⟩:=ry;obtain⟨its,r,pl,hz⟩:=I.tuple hq;obtain⟨j,B,Y,h3,h4,h5⟩:=a4g he;obtain⟨w,ew,ak⟩:=r.get Y;have hl:=aN_;have hn:=sF;have fin:EP X J Z Q w s:=uA!;exact subscriptTail_builtinR (x:=w) pl.typeIs slot_tuple_getitem.lookup
  (getItem_tuple (j:=j) (Q:=uC_) pl a! a! (by rw[HX,<-hl];exact B) (by simpa using ew) ⟨rfl,fin⟩) hs
def c8l:Wu X BY:=by
 intro value gf J s Z H x y v u Q I rx ry h hs;obtain⟨z,i,c,rfl,rfl,hz,he,q⟩:=h;obtain⟨t,rfl⟩:=rx;obtain⟨t',rfl⟩:=ry;obtain⟨j,B,Y,h3,h4,h5⟩:=a4g he;have hl:z.cps.toList.length=jh!:=by simp[Str.length]
 rw[hl]at B h4 h5;have hn:=sF;exact tail_any (typeIs_str s z t) slot_str_getitem.lookup (getItem_str (c:=c) (by
  have e1:decide (i< -(2 ^ 63:Int))=false:=IK a!;have e2:decide (i>=2 ^ 63)=false:=IK a!;rw[e1,e2,Bool.or_false]) (by rw[B];simpa using Y) ⟨gJ_,H,a5_,I_,q⟩) hs
def EY(K:xB!):R2:=λx y H Q=>BZ K x y H Q\/BX K x y H Q\/BY x y H Q
def aH:Wu X (EY X.K):=b2v.or (c8k.or c8l)
def b0a(its:i!)(n j:Nat)(u:x6!):Obj.mapSeq uG_ {cls:=.type "list",data:=.seq its.toArray n}={cls:=.type "list",data:=.seq (its.set j u).toArray n}:=by simp[Obj.mapSeq]
def Inv.lst{J:n_}{Z:St}{H:Hp}{s:xA!}{p:xz!}{xs:l_}(I:d!)(h:H p=some R!):
  ∃(its:i!) (n:Nat),Bc xs its/\s.heap.get? p=some {cls:=.type "list",data:=.seq its.toArray n}/\k_<=sizeLine:=by
 obtain⟨z,its,n,r,e⟩:=I.hok p _ h;exact⟨its,n,r,e,z⟩
def Inv.lstUpd{J:n_}{Z:St}{H:Hp}{s:xA!}{p:xz!}{xs ys:l_}{its its':i!}{n n':Nat}{f:Obj->Obj}(I:d!)(h:H p=some R!)
  (ho:s.heap.get? p=some {cls:=.type "list",data:=.seq its.toArray n})(hf:f {cls:=.type "list",data:=.seq its.toArray n}={cls:=.type "list",data:=.seq its'.toArray n'})(r:Bc ys its')(hz:jh_)(t:Nat):
  Inv X J Z (upd H p ba!) {s with heap:=s.heap.update p f,toks:=t}:=by
 have e:(s.heap.update p f).get? p=some {cls:=.type "list",data:=.seq its'.toArray n'}:=by
  rw[NZ f ho (by rw[hf]<;>rfl),hf]
 refine I.write (x:=p) (e:=p) (by rw[h];trivial) ao_ (λb u hb q=>(uI_).trans q) ⟨_,e⟩ ?_;exact⟨hz,its',n',r,e⟩
def BU:V->V->V->Hp->mc!->Prop:=λo i v H Q=>∃p xs k j,o=.ref p/\i=.int k/\H p=some R!/\Ea xs.length k=some j/\Q uJ_
def a4w:Wq X BU:=by
 intro J s Z H o i v ov iv u Q I ro ri rv h;obtain⟨p,xs,k,j,rfl,rfl,hp,hj,q⟩:=h;cases ro;obtain⟨t,rfl⟩:=ri;obtain⟨its,n,r,ho,hz⟩:=I.lst hp;obtain⟨B,Y,h3,h4⟩:=b2w hj;have hl:=aN_;have hn:=sF;have I':Inv X J Z uJ_ {s with heap:=s.heap.update p (Obj.mapSeq uG_)}:=
  I.lstUpd hp ho (b0a its n j u) (r.set rv j) (by rw[LO];exact hz) s.toks
 by_cases h0:0<=k
 .have hk:k.toNat=j:=by
   rw[seqIndex_of h0 h4]at B;exact JN B
  exact W.ki_setAt ho h0 a! (by rw[HX,<-hl];exact h4) uL_
 .have hk:(k+(bQ_:Int)).toNat=j:=by
   rw[seqIndex_neg a! h3]at B;rw[HX,<-hl];exact JN B
  exact W.ki_setBack ho a! (by rw[HX,<-hl];exact h3) a! uL_
def a1b(lo hi:a9_)(n:Nat):(nm_).1=((HT.sIx n 0 lo:Nat):Int)/\(nm_).2.1=((HT.sIx n n hi:Nat):Int)/\(nm_).2.2=1:=by
 refine⟨?_,?_,rfl⟩
 .cases lo with
  |none=>simp[sliceBounds,HT.sIx]
  |some i=>
   show"!p"
   .simp only[h,JT]<;>omega
   .simp only[h,JM]<;>omega
 .cases hi with
  |none=>simp[sliceBounds,HT.sIx]
  |some i=>
   show"!p"
   .simp only[h,JT]<;>omega
   .simp only[h,JM]<;>omega
def xZ(its:i!)(lo hi:a9_):slicePick its.toArray lo hi none=((its.drop (HT.sIx its.length 0 lo)).take (HT.sIx its.length its.length hi - HT.sIx its.length 0 lo)).toArray:=by obtain⟨B,Y,h3⟩:=a1b lo hi bQ_;unfold slicePick;rw[B,Y,h3];simp only[sliceRange_one,pick_run,HX]<;>rfl
def EV(K:xB!):V->Option Int->Option Int->Hp->VK->Prop:=λx lo hi H Q=>∃a xs,x=.ref a/\Fn K H a xs/\∀p,H p=none->Q c9_ (upd H p (.lst gI!))
def c2h:Zw X (EV X.K):=by intro J s Z H x v vl vu lo hi sl Q I rx hs pl pu h;obtain⟨a,xs,rfl,O,q⟩:=h;cases rx;obtain⟨its,r,ht,hz⟩:=I.list O;have am:=aN_;refine⟨"list",_,uB_,ht.isList.typeIs,?_⟩;refine wpAny_getItem_list_slice ht.isList hs pl pu .none d_ ?_ uE!;rw[xZ,<-am];refine⟨dd!,_,I.laid (t':=s.toks) (o:=.lst gI!) nh_ x_ ?_,rfl,q _ gB_⟩;exact⟨ur!,_,0,us!,dO_⟩
def Ng:V->Bool
 |.non=>true
 |.bl _=>true
 |.int _=>true
 |.str _=>true
 |_=>false
def Yi:V->V->Bool
 |.non,.non=>true
 |.bl a,.bl b=>a==b
 |.bl a,.int b=>uP_==b
 |.int a,.bl b=>a==uQ!
 |.int a,.int b=>a==b
 |.str a,.str b=>a==b
 |_,_=>false
def c8r{A:x9!}{s:xA!}{y x:V}{u v:x6!}(ry:Bs y u)(rx:Bs x v)(fy:Ng y=true)(fx:Ng x=true):SeqAt.EqAt A s u v (Yi y x):=by
 cases y with
 |non=>
  cases ry;cases x with
  |non=>cases rx;exact SeqAt.EqAt.same _
  |bl b=>cases rx;exact SeqAt.EqAt.none_bool b
  |int b=>obtain⟨t,rfl⟩:=rx;exact SeqAt.EqAt.none_int b t
  |str b=>obtain⟨t,rfl⟩:=rx;exact SeqAt.EqAt.none_str b t
  |_=>exact absurd ji_ IR
 |bl a=>
  cases ry;cases x with
  |non=>cases rx;exact SeqAt.EqAt.bool_none a
  |bl b=>cases rx;exact SeqAt.EqAt.bool_bool a b
  |int b=>obtain⟨t,rfl⟩:=rx;exact SeqAt.EqAt.bool_int a b t
  |str b=>obtain⟨t,rfl⟩:=rx;exact SeqAt.EqAt.bool_str a b t
  |_=>exact absurd ji_ IR
 |int a=>
  obtain⟨t',rfl⟩:=ry;cases x with
  |non=>cases rx;exact SeqAt.EqAt.int_none a t'
  |bl b=>cases rx;exact SeqAt.EqAt.int_bool a t' b
  |int b=>obtain⟨t,rfl⟩:=rx;exact QA a t' b t
  |str b=>obtain⟨t,rfl⟩:=rx;exact SeqAt.EqAt.int_str a t' b t
  |_=>exact absurd ji_ IR
 |str a=>
  obtain⟨t',rfl⟩:=ry;cases x with
  |non=>cases rx;exact SeqAt.EqAt.str_none a t'
  |bl b=>cases rx;exact SeqAt.EqAt.str_bool a t' b
  |int b=>obtain⟨t,rfl⟩:=rx;exact SeqAt.EqAt.str_int a t' b t
  |str b=>obtain⟨t,rfl⟩:=rx;exact SeqAt.EqAt.str_str a t' b t
  |_=>exact absurd ji_ IR
 |_=>exact absurd (show false=true from fy) IR
def Zc(x:V)(u:x6!):Bool:=match u with
 |.none=>Yi .non x
 |.bool b=>Yi bM_ x
 |.int i _=>Yi by_ x
 |.str z _=>Yi (.str z) x
 |_=>false
def c0p{x y:V}{u:x6!}(r:Bs y u)(f:Ng y=true):Zc x u=Yi y x:=by
 cases y with
 |non=>cases r;rfl
 |bl b=>cases r;rfl
 |int i=>obtain⟨t,rfl⟩:=r;rfl
 |str z=>obtain⟨t,rfl⟩:=r;rfl
 |_=>exact absurd (show false=true from f) IR
def a4i{x:V}:∀{xs:l_} {us:i!},Bc xs us->xs.all Ng=true->us.any gM!=xs.any λy=>Yi y x
 |_,_,.nil,_=>rfl
 |y::xs,u::us,.cons r t,f=>by
  rw[NR,IZ]at f;rw[MD,MD,c0p r f.1,a4i t f.2]
def wL{A:x9!}{s:xA!}{x:V}{v:x6!}(rx:Bs x v)(fx:Ng x=true):∀{xs:l_} {us:i!},Bc xs us->xs.all Ng=true->∀u∈us,SeqAt.EqAt A s u v (Zc x u)
 |_,_,.nil,_=>λu hu=>by cases hu
 |y::xs,u::us,.cons r t,f=>λu' hu=>by
  rw[NR,IZ]at f;obtain rfl|hu:=HQ.mp hu
  .rw[c0p r f.1];exact c8r r rx f.1 fx
  .exact wL rx fx t f.2 u' hu
def DN(x:V)(xs:l_):Bool:=xs.any λy=>Yi y x
def EZ(K:xB!)(neg:Bool):R2:=λx y H Q=>∃p xs,y=.ref p/\(Fn K H p xs\/Gc K H p xs)/\Ng x=true/\xs.all Ng=true/\Q (.bl (if neg then !DN x xs else DN x xs)) H
def b4u:Gs X jj! (EZ X.K false):=by
 intro J s Z H x y v u Q I rx ry h;obtain⟨p,xs,rfl,hq,fx,fs,q⟩:=h;cases ry;obtain hq|hq:=hq
 .show"!O";refine SeqAt.in_listAt gM! pl.isList uS_ e6!;rw[uT_,a4i r fs];exact q
 .show"!z";refine SeqAt.in_tupleAt gM! pl uS_ e6!;rw[uT_,a4i r fs];exact q
def a4e:Jn X d3! (λxs H Q=>∃p ys,xs=gM_/\(Fn X.K H p ys\/Gc X.K H p ys)/\∀l,H l=none->Q jj_ jk!):=by
 intro J s Z H xs us Q I r h;obtain⟨p,ys,rfl,hq,q⟩:=h;obtain⟨u,rfl,rx⟩:=vC r;cases rx;have fin:∀(its:i!),Bc ys its->ac_<=sizeLine->∀(h':Heap) (c':Nat),(∀b o',s.heap.get? b=some o'->h'.get? b=some o')->
   h'.get? q_=some {cls:=.type "list",dict:=none,data:=.seq its.toArray c',slots:=#[]}->EP X J Z Q c6! {s with heap:=h'}:=λits r' hz h' c' kp e=>
  ⟨dd!,_,I.laid (t':=s.toks) kp x_ (show Fb X.prog X.w _ h' _ ba! from⟨hz,its,c',r',e⟩),rfl,q _ gB_⟩
 obtain hq|hq:=hq
 .obtain⟨its,r',pl,hz⟩:=I.list hq;have am:=iQ_;obtain⟨o,ho,hc,n,hd⟩:=pl.isList;exact call_list_seq p ao_ ho hc hd uW! uX!
 .obtain⟨its,r',pl,hz⟩:=I.tuple hq;have am:=iQ_;obtain⟨o,ho,hc,n,hd⟩:=pl;exact call_list_seq p gN! ho hc hd uW! uX!
def FU(K:xB!)(T:String)(x:V)(H:Hp):Prop:=match x with
 |.str _=>T="str"
 |.int _=>T="int"
 |.ref p=>(T="list"/\∃xs,Fn K H p xs)\/(T="tuple"/\∃o,K.lookup p=some o/\o.cls=.type "tuple"/\o.dict=none)\/
   (T="dict"/\((∃kvs,H p=some dT_)\/∃kvs,H p=some jk_))\/(T="set"/\∃S n,H p=some (.set S n))
 |_=>False
def c6r{J:n_}{Z:St}{H:Hp}{s:xA!}{T:String}{x:V}{v:x6!}(I:d!)(r:Bs x v)(ty:FU X.K T x H):
  s.TypeIs v T/\∀a,v=.ref a->∃ob,s.heap.get? a=some ob/\ob.dict=none:=by
 cases x with
 |str z=>
  obtain⟨t,rfl⟩:=r;cases (show T="str" from ty);exact⟨typeIs_str s z t,uY!⟩
 |int i=>
  obtain⟨t,rfl⟩:=r;cases (show T="int" from ty);exact⟨typeIs_int s i t,uY!⟩
 |ref p=>
  cases r;obtain⟨rfl,xs,hq⟩|⟨rfl,o,hk,hc,hd⟩|⟨rfl,hk⟩|⟨rfl,S,n,hk⟩:=ty
  .obtain⟨its,_,pl,_⟩:=I.list hq;refine⟨pl.isList.typeIs,λa e=>?_⟩;cases e;obtain⟨o,n,e,c,hd,_⟩:=pl;exact⟨o,e,hd⟩
  .refine⟨⟨o,I.kIn p o hk,hc⟩,λa e=>?_⟩;cases e;exact⟨o,I.kIn _ o hk,hd⟩
  .have z:∃o,s.heap.get? p=some o/\h9!:=by
    obtain⟨kvs,hk⟩|⟨kvs,hk⟩:=hk
    .show"!v"
    .show"!v"
   obtain⟨o,e,ex⟩:=z;refine uY_;cases e2;exact uZ!
  .obtain⟨o,_,_,_,e,ex,_⟩:=I.hok p _ hk;refine uY_;cases e2;exact uZ!
 |_=>exact False.elim ty
def GX(K:xB!)(T:String)(r:nj_)(to:TE)(t:TA):TE:=λZ H Q=>to Z H λx H1=>FU K T x H1/\t Z H1 λxs H2=>r x xs H2 Q
variable{o e:Expr}{es:List Expr}{to:TE}{t:TA}{name:Str}{ag ab:Pos}{T id:String}{r:V->List V->Hp->VK->Prop}
def vW(pa:PlainAttrs T)(slot:Slot T name id)(X5:typeOf e5!=pure (.type "method_descriptor"))(hm:GN X id r)(ho:PE X o to)(ha:e2!)
  (fg:attributeBase o name X.env c5!=eval o X.env:=by rfl)
  (fh:((backTo ab tD!).all cd_&&(ce!).all ce_
   &&decide ((aO!).length+(d3_).length+e7!<30))=true:=by rfl)
  (fm:dd_:=by rfl) (hs:aB_:=by rfl) (fq:(u0!).any b_=false:=by rfl):
  PE X (.Call (.Attribute o name ag) aO! [] ab) (GX X.K T r to t):=by
 show"!Q";refine wpAny_Call_method_late fg fh fm rfl (dO rN! λv s1 ⟨x,H1,I1,r1,ty,q1⟩=>?_);obtain⟨B,Y⟩:=c6r I1 r1 ty;refine⟨T,id,pa,slot,X5,B,Y,?_⟩;have hA:=ha ab J s1 Z H1 _ I1 q1;rw[hs]at hA ⊢;refine NS (by show(false||(u0!).any b_)=false;rw[fq]<;>rfl) (OE ?_);exact dO hA λus s2 ⟨vs,H2,I2,r2,q2⟩=>hm J s2 Z H2 x vs v us Q I2 r1 r2 q2
end
end L2
namespace L2
open PySem PySem.Spec PyProof.Rows
def DX(X:Cx)(id:String)(r:nj_):Prop:=
 ∀(J:n_) (s:xA!) (Z:St) (H:Hp) (x:V) (xs:l_) (v:x6!) (us:i!) (Q:VK),Inv X J Z H s->Bs x v->Bc xs us->r x xs H Q->
  wpAny e_ X.A uy! aN! X.xe s
def Bc.one:∀{x:V} {us:i!},Bc [x] us->∃u,us=[u]/\Bs x u
 |_,_,.cons r .nil=>lz_
def Bc.eraseIdx:∀{xs:l_} {us:i!} (i:Nat),Bc xs us->Bc (xs.eraseIdx i) (us.eraseIdx i)
 |_,_,_,.nil=>.nil
 |_,_,0,.cons _ t=>t
 |_,_,i+1,.cons r t=>.cons r (Bc.eraseIdx i t)
def Bc.rep{xs:l_}(h:h7_):∀k:Nat,Bc (u0_).flatten (List.replicate k us).flatten
 |0=>.nil
 |k+1=>by
  rw[LN,LN,NP,NP];exact Bc.append h (Bc.rep h k)
def zV{α:Type}:∀(l:N_) (i:Nat),(l.eraseIdx i).length<=al_
 |[],_=>IQ _
 |_::_,0=>OC _
 |_::r,i+1=>RP (zV r i)
def a0d(its:i!):∀(k:Nat) (acc:i!),
  List.foldl no! acc.toArray (List.replicate k be!)=(acc++(u1!).flatten).toArray
 |0,acc=>by simp
 |k+1,acc=>by
  have e:acc.toArray++be!=(no_).toArray:=by simp
  have e2:no_++(u1!).flatten=acc++(List.replicate R_ its).flatten:=by
   rw[LN,NP,JL]
  rw[<-e2,<-a0d its k no_,<-e,LN,List.foldl_cons]
section
variable{X:Cx}{J:List (Addr×Obj)}{Z:St}{H:Hp}{s:xA!}{l b:xz!}{xs ys zs:List V}
def Inv.lset{its its':i!}{n:Nat}{f:Array Value->Array Value}{t':Nat}(I:d!)(hH:H l=some R!)
  (e:s.heap.get? l=some {cls:=.type "list",data:=.seq its.toArray n})(hf:f be!=its'.toArray)(hv:Bc ys its')(hz:jh_):
  Inv X J Z jk! {s with heap:=s.heap.update l u3!,toks:=t'}:=by
 have q:=PySem.IsL.update e f;rw[hf]at q;refine I.write (x:=l) (e:=l) (by rw[hH];exact trivial) ao_ (λb' u hb hu=>(KG s.heap u3! (HY hb)).trans hu) ⟨_,q⟩ ?_;exact⟨hz,its',_,hv,q⟩
def Inv.lnew{its:i!}{t':Nat}(I:d!)(hv:Bc ys its)(hz:jh_):
  Inv X J Z (upd H s.heap.objs.size ba!) {s with heap:=s.heap.push {cls:=.type "list",data:=.seq be!},toks:=t'}:=
 I.laid u3_ x_ ⟨hz,its,0,hv,dO_⟩
def Inv.fresh(I:d!):H q_=none:=I.hok.fresh x_
def Inv.lstM(I:d!)(hH:H l=some R!):k_<=sizeLine/\∃(its:i!) (n:Nat),Bc xs its/\k_=gO!/\s.heap.get? l=some {cls:=.type "list",data:=.seq its.toArray n}:=by obtain⟨z,its,n,r,e⟩:=I.hok l _ hH;exact⟨z,its,n,r,aN_,e⟩
def a6c{n:Nat}(h:np!):Builtin.List.listTooLong n=false:=by unfold Builtin.List.listTooLong;exact IK a!
end
section
variable{X:Cx}
def Yt:V->List V->Hp->VK->Prop:=λx vs H Q=>∃l xs y,x=.ref l/\vs=[y]/\H l=some R!/\k_<sizeLine/\Q .non (upd H l (.lst (xs++[y])))
def zP:DX X "list.append" Yt:=by intro J s Z H x vs v us Q I rx rv h;obtain⟨l,xs,y,rfl,rfl,hH,hz,q⟩:=h;cases rx;obtain⟨u,rfl,ru⟩:=rv.one;obtain⟨z,its,n,r,hl,e⟩:=I.lstM hH;refine RF F.slot_list_append de! F.entry_list_append (F.args_list_append_2 _ _) (PySem.list_append l its.toArray n u jm!) gO_;refine⟨.non,_,I.lset (its':=its++[u]) hH e d_ (r.append u4_) ?_,rfl,q⟩;rw[IL,KU];omega
def Ys:V->List V->Hp->VK->Prop:=λx vs H Q=>∃l b xs zs,x=.ref l/\vs=[.ref b]/\H l=some R!/\H b=some (.lst zs)/\k_+zs.length<=sizeLine/\Q .non (upd H l u5_)
def b5k:DX X "list.extend" Ys:=by
 intro J s Z H x vs v us Q I rx rv h;obtain⟨l,b,xs,zs,rfl,rfl,hH,hB,hz,q⟩:=h;cases rx;obtain⟨u,rfl,ru⟩:=rv.one;cases ru;obtain⟨z,its,n,r,hl,e⟩:=I.lstM hH;obtain⟨z2,gu,n2,r2,UB,e2⟩:=I.lstM hB;have hsz:bQ_+u6_<=sizeLine:=by rw[HX,HX];omega
 have yb:¬(! mH!&&Builtin.List.listTooLong (bQ_+u6_))=true:=by
  rw[a6c hsz,QR];exact IR
 refine RF F.slot_list_extend de! F.entry_list_extend (F.args_list_extend_2 _ _)
  (AutoSeq1.list_extend_list_list_0 l its.toArray n b gu.toArray n2 yb jm! a!) ⟨e,e2,?_⟩
 refine⟨.non,_,I.lset (its':=its++gu) hH e d_ (r.append r2) ?_,rfl,q⟩;rw[IL];omega
def EW:R2:=λx y H Q=>∃l k xs,x=.ref l/\y=.int k/\H l=some R!/\-(2 ^ 63)<=k/\k<2 ^ 63/\k_*k.toNat<=sizeLine/\
 ∀p,H p=none->Q c9_ (upd H p (.lst (List.replicate k.toNat xs).flatten))
def c3w{α:Type}(xs:N_)(k:Nat):(u0_).flatten.length=k*k_:=by
 induction k with
 |zero=>simp
 |succ k ih=>rw[LN,NP,IL,ih,Nat.succ_mul,Nat.add_comm]
def c7k:Gs X sr! EW:=by
 intro J s Z H x y v u Q I rx ry h;obtain⟨l,k,xs,rfl,rfl,hH,B,Y,hz,q⟩:=h;cases rx;obtain⟨t,rfl⟩:=ry;obtain⟨z,its,n,r,hl,e⟩:=I.lstM hH;have am:bQ_*k.toNat<=sizeLine:=by rw[HX,<-hl];exact hz
 have X6:¬bQ_*k.toNat>(2 ^ 63 - 1) / 8:=by
  have:(sizeLine:Nat)<=(2 ^ 63 - 1) / 8:=by decide
  omega
 have yc:¬(!Builtin.List.listFitsIndex k)=true:=by
  rw[fitsIndex_both B Y];exact IR
 have yb:¬Builtin.List.listTooLong (bQ_*k.toNat)=true:=by
  rw[a6c am];exact IR
 have pz:List.foldl no! #[] (List.replicate (if mH!=true then 0 else k.toNat) be!)=(List.replicate k.toNat its).flatten.toArray:=by
  have f0:∀m:Nat,List.foldl no! #[] (List.replicate m be!)=(List.replicate m its).flatten.toArray:=λm=>by
   have:=a0d its m [];rw[KZ]at this;show"#D"
  rw[f0];cases its with
  |nil=>simp
  |cons a r'=>rw[F!]
 refine wpAny_binaryOp_repeat_ref (T:="list") (U:="int") c_ de! (λs'=>typeIs_int s' k t) noFill_list_mul F.fills_int_mul F.slot_int_rmul repeat_list F.slot_int_index.lookup
  (RF F.slot_int_rmul (typeIs_int s k t) F.entry_int_rmul (F.args_int_rmul_2 _ _) (int___rmul___int_list k t l its.toArray n)
   ⟨e,rfl,de!,RF F.slot_list_mul de! F.entry_list_mul (F.args_list_mul_2 _ _) (AutoListH.list___mul___list_int_3 l its.toArray n k t yc X6 yb) gO_⟩)
 rw[pz];exact⟨.ref _,_,I.lnew (t':=s.toks) (r.rep k.toNat) (by rw[c3w,Nat.mul_comm];exact hz),rfl,q _ I.fresh⟩
end
end L2
namespace L2
open PySem PySem.Spec PyProof.Rows
section
variable{κ:Type} [DecidableEq κ]
def Nq(kvs:gt_)(k:κ):Option V:=(kvs.find? λkv=>decide (kv.1=k)).map C_
def b6h{p:κ×V}{r:gt_}{k:κ}(e:p.1=k):Nq (p::r) k=some p.2:=by simp[Nq,LP,e]
def b6i{p:κ×V}{r:gt_}{k:κ}(e:¬p.1=k):Nq (p::r) k=Nq r k:=by simp[Nq,LP,e]
def Ol.isSome_eq{o:Option V}{u:mN_}(r:Ol o u):o.isSome=u.isSome:=by
 cases o with
 |none=>cases u with
  |none=>rfl
  |some _=>exact(iV!).elim
 |some _=>cases u with
  |none=>exact(iV!).elim
  |some _=>rfl
def KV.val{kvs:gt_}{vs:List lB_}(r:KV kvs vs)(k:κ):Ol (Nq kvs k) (valueAt vs k):=by
 unfold KV at r
 induction r with
 |nil=>exact iX!
 |@cons p q ps qs h t ih=>
  obtain⟨B,Y⟩:=h;by_cases e:p.1=k
  .have e':q.1=k:=B.symm.trans e;have b:valueAt (q::qs) k=some q.2:=by simp[valueAt,LP,e']
   rw[b6h e,b];exact Y
  .have e':¬q.1=k:=λz=>e (B.trans z);have b:valueAt (q::qs) k=valueAt qs k:=by simp[valueAt,LP,e']
   rw[b6i e,b];exact ih
end
def b9y{P:x4!}{w:x5!}{k:Key}{u:x6!}(r:Bs (kV k) u):(bv!).is k u=true:=by
 cases k with
 |inl i=>obtain⟨t,e⟩:=ta!;subst e;exact a6i P w i t
 |inr x=>obtain⟨t,e⟩:=ta_;subst e;exact mB P w x t
def sJ{P:x4!}{w:x5!}:∀{ks:List Key} {us:i!},Bc nr_ us->ItemsAre bv! ks us
 |[],_,r=>by rw[NE]at r;cases r;exact .nil
 |k::ks,_,r=>by
  rw[HZ]at r;cases r with
  |cons h t=>exact .cons (b9y h) (sJ t)
abbrev KT(H:Hp):List (List Key×V)->List lC!->Prop:=Paired λp q=>p.1=q.1/\H q.2.1=some qB!/\Bs p.2 q.2.2
section
variable{P:x4!}{w:x5!}{H:Hp}{h:Heap}{a:xz!}
def d0p{u:HO}(ok:bw!)(e:Rd H a u):Fb P w H h a u:=e.ok ok
def a3k{ks:List Key}(ok:bw!)(e:H a=some (.tup nr_)):(f0!).is h ks a:=by obtain⟨_,its,r,o,B,Y,n,h3⟩:=(show Fb P w H h a (.tup nr_)from ok a _ e);exact⟨o,be!,n,B,Y,h3,by simpa using sJ r⟩
def d1u{kvs:h8!}(ok:bw!)(e:Rd H a jk_):aG!<=sizeLine/\dE_=false/\
  ∃xs,KT H kvs xs/\h.DictOfH f0! a xs:=by
 obtain⟨z,y,xs,r,o,es,ep,B,Y,h3,h4,h5⟩:=(show Fb P w H h a jk_ from d0p ok e);refine⟨z,y,xs,r,o,es,ep,B,Y,h3,h4,aZ_,h5⟩;have all:∀{l:h8!} {m:List lC!},KT H l m->∀x∈m,(f0!).is h x.1 x.2.1:=by
  intro l m q
  induction q with
  |nil=>intro x O;exact nomatch O
  |@cons p q ps qs hq t ih=>
   intro x O;obtain e|O:=HQ.mp O
   .subst e;exact a3k ok (by rw[<-hq.1];exact hq.2.1)
   .exact ih x O
 exact all r x O
def xP{kvs:h8!}(ok:bw!)(e:H a=some jk_):aG!<=sizeLine/\dE_=false/\
  ∃xs,KT H kvs xs/\h.DictOfH f0! a xs:=d1u ok (.inl e)
end
section
variable{X:Cx}{J:List (Addr×Obj)}{Z:St}{H:Hp}{s:xA!}{a:xz!}{y v:V}{u r:x6!}{o:Option V}{A:x9!}{E:Value->Shared->Prop}
def Inv.big(I:d!):sysModules<q_:=by have h:mainGlobals<q_:=(I.mod.glob.keeps I.bk).lt;exact Nat.lt_trans c_ h
def c5d{h':Heap}{t':Nat}{ob:HO}(I:d!)(mu:CW (H a))(hs:vb_)(he:∃q,h'.get? a=some q)(new:Fb X.prog X.w (upd H a ob) h' a ob):
  Inv X J Z (upd H a ob) {s with heap:=h',toks:=t'}:=
 I.write (x:=a) (e:=a) mu ao_ (λb q hb z=>(hs.2 b hb).trans z) he new
end
def CV(i:Expr):Prop:=∀ov iv,subscripted i false ov iv=operate [ov,iv] (getItem ov iv)
def c2g{prog:x4!}{w:x5!}{A:x9!}{E:p_}{s:xA!}{value:Expr}{pos:Pos}{T id:String}{Q:p_}
  (hl:typeLookup d1_ "__getitem__"=pure (some e5!))(hs:CV gf)
  (h:wpAny r_ A (eval value env) (λo aj=>wpAny r_ A (eval gf env) (λi al=>al.TypeIs o T/\wpAny r_ A (getItem o i) Q E al) E aj) E s):
  wpAny r_ A (eval (.Subscript value gf pos) env) Q E s:=by
 refine Subscript_ (KS h (λo aj h₁=>KS h₁ (λi al rj=>?_) λ_ _ x=>x) λ_ _ x=>x);obtain⟨hT,rj⟩:=rj;unfold subscriptTail;refine HL ?_;rw[getitemInPython_of_ne hT.not_modules];refine HL (PQ hT hl ?_);have fin:wpAny r_ A (subscripted gf false o i) (λr dt=>wpAny r_ A (letTemporaryGo value o r>>=λ_=>pure r) Q E dt) E al:=by
  rw[hs o i];exact wpAny_operating (KS rj (λr dt vp=>HL (wpAny_letTemporaryGo (HN vp))) λ_ _ x=>x)
 first
  |exact HN jr_
  |exact HL (HN jr_)
  |exact HL fin
structure M1(X:Cx)(o:Expr)(m:Str)(ag:Pos)(e:Expr)(ab:Pos):Prop where
 base:attributeBase o m X.env c5!=eval o X.env
 few:((js!).all cd_&&(ce!).all ce_
  &&decide (([e]:List Expr).length+(d3_).length+e7!<30))=true
 line:nn_=true
 trees:backTo ab ve!=[e0_]
structure M2(X:Cx)(o:Expr)(m:Str)(ag:Pos)(e f:Expr)(ab:Pos):Prop where
 base:attributeBase o m X.env c5!=eval o X.env
 few:((backTo ab ve_).all cd_&&(ce!).all ce_
  &&decide (([e,f]:List Expr).length+(d3_).length+e7!<30))=true
 line:nn_=true
 trees:backTo ab ve_=[e0_,(false,eval f X.env)]
end L2
namespace Att
open PySem PySem.W PySem.Calls PyProof.Rows
def uF{P:Params}{h:Heap}:∀(ns:z!) (vs:i!),WellAll P h vs vf!->IntsAre vs ns:=by
 intro ns
 induction ns with
 |nil=>
  intro vs w;rw[NE]at w;cases w;exact .nil
 |cons n ns ih=>
  intro vs w;rw[HZ]at w;cases w with
  |cons a b=>
   cases a;exact .cons _ _ (ih _ b)
def b3z{l:OpenLaw}{n:Nat}(hn:js_){P:Params}{h:Heap}{args:List WData}
  (vq:l.row.toRowW.claim.pre args=true)(yd:WellAll P h ye args):
  ∃a vs ns,ye=[Value.ref a]/\args=[WData.list vf!]/\h.get? a=some {cls:=.type "list",data:=.seq cA!}/\IntsAre vs ns/\c8_<=n:=by
 have X7:WShape.hasAll [] args [.list .int]=true:=(vf_).1;have hc:l.pre.holds [] {args:=args}=true:=(vf_).2;obtain⟨d,r,rfl,B,Y⟩:=hasAllW_cons X7;obtain rfl:=hasAllW_nil Y;obtain⟨xs,rfl,h3⟩:=hasW_list B;obtain⟨ns,rfl⟩:=items_int h3;have am:c8_<=n:=by
  unfold OpenLaw.pre at hc;have h4:(WTm.not (.lt (.lit (.int (n:Int))) (.len (.arg 0)))).holds [] {args:=[.list jt!]}=true:=by
   have h4:=(holds_andW hc).1;rw[hn]at h4;exact h4
  have h5:=condW_of h4 (w_not (w_lt w_lit (w_len_list (w_arg rfl))));rw[IF]at h5;refine Nat.le_of_not_lt λq=>?_;have q':(n:Int)<((c8_:Nat):Int):=by omega
  first
   |(rw[IT q']at h5;exact absurd h5 c_)
   |(simp at h5;omega)
 cases yd with
 |cons w1 w2=>
  cases w2;cases w1 with
  |list ho fw=>exact⟨_,_,ns,rfl,rfl,ho,uF ns _ fw,am⟩
def b4l(l:OpenLaw)(args:List WData):l.row.toRowW.claim.post args gR! args=true:=
 postW_of (r:=l.row.toRowW) (X:=(true==true))
  (show WShape.has [] gR! .bool=true by first|rfl|decide|simp[WShape.has,WShape.arms,WShape.armsAll])
  (show(WTm.eq .res (.lit gR!)).value [] {args:=args,res:=some gR!,after:=args}=some (.bool (true==true))from w_eq_bool (w_res rfl) w_lit) rfl
def a8e{l:OpenLaw}{n:Nat}{XP:nv!}{YP:nv_}{d:DefRec}
  (hn:js_)(rm:nw!)
  (call:∀(w:x5!) (s₀ aj:xA!) (mg mb:y_) (fa:xz!) (o:Obj) (pm cd bn:x6!) (a:xz!) (vs:i!) (ns:z!),
   Ground q yf [] XP w s₀ mg mb aj.heap->YP w aj.heap->
   aj.heap.get? fa=some o->o.data=.func (docDef d.name d.params d.body d.scope pm cd bn)->aj.heap.CodeRec cd d.name->mg d.name=some fa!->
   aj.heap.get? a=some {cls:=.type "list",data:=.seq cA!}->IntsAre vs ns->c8_<=n->aj.gens=#[]->
   codeAny (model l.prog w) callerA nx! ny! aj):
  WalkO q yf XP YP l.row.toRowW d [] ny_:=by
 intro w s₀ aj mg mb G vt fa o pm cd bn dV kV ho hd b6 hD j2 hg args ye as vq hlay hrd yd hlo;obtain rfl:dV=.none:=Dflts.none hD rm;obtain rfl:kV=.none:=Dflts.noKw hD;obtain⟨a,vs,ns,rfl,rfl,yg,hints,am⟩:=b3z hn vq yd;refine enter_call (RB (call w s₀ aj mg mb fa o pm cd bn a vs ns G vt ho (fd_plain hd) b6 j2 yg hints am hg) λr s' hq=>?_);obtain⟨rfl,Y,h3,h4⟩:=hq;exact⟨.inl ⟨nz!,nz!,[],rfl,gw!,nz!,b4l l _,λ_=>⟨ju_,λ_ hm=>(nomatch hm)⟩⟩,Y,h3,h4⟩
section
variable{prog:x4!}{w:x5!}{A:x9!}{E:Value->Shared->Prop}{s:xA!}{K:Frag}
end
end Att
namespace L2
open PySem PySem.Spec PyProof.Rows
def yZ:∀{vs:i!} {ns:z!},IntsAre vs ns->Bc cd! vs
 |_,_,.nil=>.nil
 |_,_,.cons n t h=>.cons nz_ (yZ h)
def Zh(H:Hp):Prop:=∀b,H b=none\/∃o xs,H b=some (.frz o R!)
def b9r{P:x4!}{w:x5!}{K:xB!}{mg mb:y_}{CX:Wv}{k:Nat}{a:xz!}{fd:FuncData}{x:Str}{sp:Sp}{aj:xA!}{vs:i!}{ns:z!}
  (KX:K.In aj.heap)(UC:aj.heap.Ns mainGlobals mg)(hb:aj.heap.Ns builtinsNs mb)(X8:∀x:Str,x≠"__name__"->mb x=bootBuiltins x)(X9:aj.heap.NoLimit)(hg:aj.gens=#[])
  (ha:aj.heap.get? a=some {cls:=.type "list",data:=.seq cA!})(hi:IntsAre vs ns)(hl:s3!)(L:nA!)
  (F:∀base:Heap,K.In base->base.Ns mainGlobals mg->Fj P w K mg base CX k fa fd [x] sp)(X':∀(s:xA!) (u:x6!),BindsTo s fd jx! [(x,u)])
  (je:∀H:Hp,Zh H->Fn K H a cd!->sp bj! H jy! λ_ _ _=>False)
  (rq:∀H e s',CX [] H aj nA_ e s'->False):
  codeAny L_ callerA nx! ny! aj:=by
 have rv:=yZ hi;have YA:=hi.length;have UD:∀H:Hp,Zh H->Fn K H a cd!->Om P w H aj.heap->(∀b,H b≠none->b=a)->(H a≠none->K.lookup a=none)->
   codeAny L_ callerA nx! ny! aj:=by
  intro H hO hS hok hA hK;have UE:∀{b:xz!} {o:Obj},aj.heap.get? b=some o->H b=none->(gS!).get? b=some o:=λe n=>c0h e n;have rh:∀{b:xz!} {o:Obj} {es:bR_} {ep:Nat},aj.heap.get? b=some o->o.data=.dict es ep->H b=none:=λ{b o es ep} e d=>by
   cases q:H b with
   |none=>rfl
   |some u=>
    have e':b=a:=hA b cg!;subst e';rw[ha]at e;cases e;have d':Data.seq vs.toArray _=Data.dict es ep:=d;cases d'
  have vw:∀{b:xz!} {m:y_},aj.heap.Ns b m->(gS!).Ns b m:=λ{b m} ⟨o,es,ep,e,d,r⟩=>⟨o,es,ep,UE e (rh e d),d,r⟩;have UF:K.In gS!:=λb o e=>UE (KX b o e) (by
   cases q:H b with
   |none=>rfl
   |some u=>
    have e':b=a:=hA b cg!;subst e';rw[hK cg!]at e;cases e)
  have hM:Mod K mg gS!:=⟨UF,vw UC,⟨mb,vw hb,X8⟩,let⟨mc,B,Y⟩:=X9;⟨mc,vw B,Y⟩⟩;have e0:Rm P w K mg gS! callerA [] aj H:=⟨rfl,hM,λb o e=>c3p e,PH (b5r _ _),trivial,λb hb=>absurd (show b∈tT_ from hb) d_,hok,.of_eq hg⟩;refine RB ((F _ UF (vw UC)).run callerA [] aj H nx_ bj! bj! _ _ L e0 (X' aj ae!) tF_ (je H hO hS)) λr s' h=>?_;cases r with
  |error e=>exact(rq H e s' h).elim
  |ok fl=>
   cases fl with
   |next=>exact False.elim h
   |brk=>exact False.elim h
   |cont=>exact False.elim h
   |ret u=>
    obtain⟨v,H',os,bare,un,YB,r',q⟩:=h;have q':v=.bl true:=q;subst q';obtain rfl:u=Value.bool true:=r';refine⟨rfl,OldK.of_keep λb o e=>?_,os,bare⟩;cases q:H b with
    |none=>exact un.keep b o e q (by intro z;exact absurd tS_ d_) d_
    |some u=>
     obtain z|⟨ob,xs,z⟩:=hO b
     .rw[q]at z;cases z
     .have z2:=un.frzs b ob _ z;obtain⟨e1,_⟩:=hok b _ z;obtain⟨e2,_⟩:=YB b _ z2;rw[e]at e1;cases e1;exact e2
 cases hk:K.lookup a with
 |some o=>
  have e:=KX a o hk;rw[ha]at e;cases e;refine UD (λ_=>none) (λ_=>.inl rfl) (.inr ⟨_,cA!,_,hk,rfl,rfl,rfl,by rw[HX,YA];exact hl,by simpa using rv⟩) (λb u z=>by have z':(none:Option HO)=some u:=z;cases z') (λb z=>absurd rfl z) λz=>absurd rfl z
 |none=>
  refine UD (λb=>if b=a then some (.frz {cls:=.type "list",data:=.seq cA!} (.lst cd!))else none) (λb=>?_) (.inl (.inr ⟨{cls:=.type "list",data:=.seq cA!},j!⟩)) (λb u z=>?_) (λb z=>?_) λ_=>hk
  .show"#8"
   .exact .inr ⟨_,_,IA hb⟩
   .exact .inl (HR hb)
  .show"#8"
   .have z':=(IA hb).symm.trans z;cases z';subst hb;exact⟨ha,vk!,vs,_,rv,ha⟩
   .have z':=(HR hb).symm.trans z;cases z'
  .show"#8"
   .exact hb
   .exact absurd (HR hb) z
end L2
namespace L2
open PySem PySem.Spec PyProof.Rows
def c1z{l:W.OpenLaw}{n k:Nat}{XP:nv!}{YP:nv_}{d:DefRec}{K:vk_}{CX:World->Wv}{sp:World->Sp}{x:Str}
  (hn:js_)(j1:np!)(rm:nw!)(L:nA!)
  (hY:vl!)
  (F:∀(w:x5!) (mg:y_) (fa:xz!) (h:Heap),(bS_).In h->h.Ns mainGlobals mg->mg d.name=some fa!->
   ∃fd:FuncData,vl_/\
    ∀base:Heap,(bS_).In base->base.Ns mainGlobals mg->Fj l.prog w bS_ mg base (CX w) k fa fd [x] (sp w))
  (je:∀(w:x5!) (H:Hp) (a:xz!) (ns:z!),c8_<=n->Zh H->Fn bS_ H a cd!->sp w bj! H jy! λ_ _ _=>False)
  (rq:∀(w:x5!) (H:Hp) (s:xA!) (e:x6!) (s':xA!),CX w [] H s nA_ e s'->False):
  W.WalkO q yf XP YP l.row.toRowW d [] ny_:=by
 refine Att.a8e hn rm λw s₀ aj mg mb fa o pm cd bn a vs ns G vt ho hd b6 j2 yg hints am hg=>?_;have KX:=hY w _ vt;obtain⟨fd,hb,hF⟩:=F w mg fa _ KX G.T.g j2;exact b9r KX G.T.g G.T.b G.T.builtins G.T.nolimit hg yg hints (JD am j1) L hF hb (λH hO hS=>je w H a ns am hO hS) λH e s'=>rq w H aj e s'
def b6g{l:W.OpenLaw}{n k:Nat}{XP:nv!}{YP:nv_}{d:DefRec}{K:vk_}{CX:Wv}{sp:W.Frag->Sp}{x:Str}
  (hn:js_)(j1:np!)(rm:nw!)(L:nA!)
  (hY:vl!)
  (F:∀(w:x5!) (mg:y_) (fa:xz!) (h:Heap),(bS_).In h->h.Ns mainGlobals mg->mg d.name=some fa!->
   ∃fd:FuncData,vl_/\
    ∀base:Heap,(bS_).In base->base.Ns mainGlobals mg->Fj l.prog w bS_ mg base CX k fa fd [x] (sp bS_))
  (je:∀(K:xB!) (H:Hp) (a:xz!) (ns:z!),c8_<=n->Zh H->Fn K H a cd!->sp K bj! H jy! λ_ _ _=>False)
  (rq:∀(H:Hp) (s:xA!) (e:x6!) (s':xA!),CX [] H s nA_ e s'->False):
  W.WalkO q yf XP YP l.row.toRowW d [] ny_:=
 c1z (K:=K) (CX:=λ_=>CX) (sp:=λw=>sp bS_) hn j1 rm L hY F (λw H a ns B Y h3=>je bS_ H a ns B Y h3) λ_ H s e s'=>rq H s e s'
end L2
namespace L2
open PySem PySem.Spec PyProof.Rows
def Fm(s:Stmt):Arguments:=match s with
 |.FunctionDef _ a _ _ _ _ _ _ _ _=>a
 |_=>{posonlyargs:=[],args:=[],vararg:=none,kwonlyargs:=[],kw_defaults:=[],kwarg:=none,defaults:=[]}
def De(s:Stmt):List Stmt:=match s with
 |.FunctionDef _ _ b _ _ _ _ _ _ _=>b
 |_=>[]
def Ae(s:Stmt):Scope:=match s with
 |.FunctionDef _ _ _ _ _ _ sc _ _ _=>sc
 |_=>{kind:=.function,names:=[],isGenerator:=false,isCoroutine:=false}
abbrev Pz:Wv:=λ_ _ _ _ _ _=>False
abbrev E0:XK:=λ_ _ _=>False
def vX{X:Cx}:Mg Pz X E0:=λ_ _ _ _ _ _ _ h=>h.elim
structure Ye(K:xB!)(x qual:Str)(st:Stmt)(f:xz!)(fd:FuncData):Prop where
 ex:∃(oc:x6!) (od:a8_) (kV bn pm:x6!) (an:a8_) (af ct:x6!) (du:cc!),
  fd=W.fnOf x qual jz! bT_ bE! .none kV bn pm an af ct/\K.lookup f=some ⟨oc,od,.func fd,du⟩/\W.codeIn K af qual=true
 kp:W.keepIn K aj_=true
section
variable{P:x4!}{w:x5!}{K:xB!}{mg:Str->Option Value}{base:Heap}
def Ye.ok{x:Str}{st:Stmt}{f:xz!}{fd:FuncData}{ps:p!}{k:Nat}{sp:Sp}(F:vm!)(S:d6!)(len:t0!)
  (pv:∀(af:x6!) (A:x9!) (outer:aw_) (s:xA!) (H:Hp) (vs:l_) (Q:VK) (E:XK),Ak k (A.deeper (envOfC qual bE! s.heap.objs.size f af))->sp vs H Q E->
   ∃t,Uv (Oz Pz P w K mg base N qual bE! f af A outer s H E).nox bT_ t/\t {nx:=λ_ H'=>Q .non H',rt:=Q} gF! H):Fj P w K mg base Pz R_ f fd ps sp:=by
 show"#)";refine d1q lk b6 S len λA outer s H vs Q E L je=>?_;obtain⟨t,h,q⟩:=pv af A outer s H vs Q E L je;exact⟨t,h.nox,q⟩
def Ye.binds{x:Str}{st:Stmt}{f:xz!}{fd:FuncData}{ps:p!}(F:vm!)
  (h:vn!):Ex K fd ps []:=by
 show"#)";exact .all (h kV bn pm an af ct)
def pA{x:Str}{st:Stmt}{f:xz!}{od an:a8_}{du:cc!}{kV:x6!}(l:vo!)
  (c:i5_)(k:gT!):Ye K x qual st f nC!:=⟨⟨oc,od,kV,bn,pm,an,af,ct,du,rfl,l,c⟩,k⟩
end
def b3v{n:Nat}(h:n<=1000):n<sizeLine:=MB h c_
def mN{A h1:Prop}(h:h1):if false=true then A else h1:=by rw[HR IR];exact h
def mM{A h1:Prop}(h:A):if true=true then A else h1:=by rw[j!];exact h
def Bj(H H':Hp):Prop:=∀b o,H b=some o->H' b=some o
def Bj.refl(H:Hp):Bj H H:=λ_ _ h=>h
def Bj.trans{H H1 H2:Hp}(a:Bj H H1)(b:Bj H1 H2):Bj H H2:=λc o h=>b c o (a c o h)
def Bj.free{H H':Hp}(e:fb_){l:xz!}(h:H' l=Option.none):H l=Option.none:=by
 cases q:H l with
 |none=>rfl
 |some o=>
  rw[e l o q]at h;cases h
def Bj.seq{K:xB!}{H H':Hp}{a:xz!}{xs:l_}(e:fb_)(h:Fn K H a xs):Fn K H' a xs:=by
 rcases h with(h|⟨o,h⟩)|h
 .exact vp_
 .exact vq!
 .exact .inr h
end L2
namespace L2
open PySem PySem.Spec PyProof.Rows
def Inv.track{X:Cx}{J:n_}{Z:St}{H:Hp}{s:xA!}{D:xz!}{ys:l_}{us:i!}{n:Nat}(I:d!)
  (hD:s.heap.get? D=some {cls:=.type "list",data:=.seq us.toArray n})(r:Bc ys us)(hz:jh_)(hn:H D=none)(hs:dG!<=D)(hL:D≠X.env.locals)
  (hc:∀x c,X.env.cells.lookup x=some c->c≠D)(hp:∀p∈X.pn++J,p.1≠D):Inv X J Z (upd H D ba!) s:=by
 have ne:∀b u,H b=some u->b≠D:=λb u e=>cJ e hn;refine I.step (g':=s.gens) (d':=s.drawn) (t':=s.toks) (h':=s.heap) (ch:=[D]) ii! (λb o _ _ _ e _=>e) (λb o _ _ _ e _=>vq_) (λb o hc e n=>?_) (λb o _ e=>⟨o,e⟩)
  (λb xs e=>by rw[nD!];exact e) (λb o u e=>by rw[nD!];exact e) (λb ps e=>⟨#[],by rw[nD!,e];simp⟩) nD_ q4_ I.bare
 .have e:b=D:=by simpa using hb
  subst e;exact⟨.inr hs,hL,hc,hp⟩
 .rw[nE!];exact n
 .by_cases hb:b=D
  .show"!x";exact⟨hz,us,n,r,hD⟩
  .rw[bC hb]at e;exact(I.hok b u e).stay nE_ (λc q=>by rw[bC (ne c _ q)];exact q) λc xs q=>by rw[bC (ne c _ q)];exact q
nonrec def closOf(cells:bm_):List vs_->List fc!->List fc!
 |[],acc=>acc
 |(n,k)::r,acc=>if k==.free then closOf cells r ((n,(cells.lookup n).getD 0)::acc)else closOf cells r acc
structure Zj(X:Cx)(scope:Scope)(cl:bm_):Prop where
 eq:closureFor scope X.env=pure cl
 sub:∀x c,cl.lookup x=some c->X.env.cells.lookup x=some c
 all:∀x,scope.names.lookup x=some .free->∃c,cl.lookup x=some c
def sS{env:Env}:∀(names:fc_) (acc:bm_),(∀p∈names,p.2=.free->∃c,env.cells.lookup p.1=some c)->
  (forIn names acc λx r=>(match x with|(name,kind)=>if(kind==gU!)=true then(do let a <-cellOf env name;pure vt!)else pure jC!:Sem vt_))=(pure (closOf env.cells names acc):Sem (List fc!))
 |[],acc,_=>rfl
 |(n,k)::r,acc,h=>by
  rw[NI];cases hk:(k==gU!)with
  |true=>
   obtain⟨c,hc⟩:=h (n,k) HV vu!;have bu:env.cells.lookup n=some c:=hc;have e:cellOf env n=pure c:=by unfold cellOf;rw[bu]
   have ih:=sS r ((n,c)::acc) λp hp=>h p jC_;have e2:closOf env.cells ((n,k)::r) acc=closOf env.cells r ((n,c)::acc):=by
    show vu_;rw[aY!,bu];rfl
   rw[e2,<-ih];simp only[hk,JT,e];rfl
  |false=>
   have ih:=sS r acc λp hp=>h p jC_;have e2:closOf env.cells ((n,k)::r) acc=closOf env.cells r acc:=by
    show vu_;rw[HR (by rw[hk];exact IR)]
   rw[e2,<-ih];simp only[hk];rfl
def pF(cells:bm_):∀(names:fc_) (acc:bm_),(∀p∈names,p.2=.free->∃c,cells.lookup p.1=some c)->(∀p∈acc,cells.lookup p.1=some p.2)->∀p∈closOf cells names acc,cells.lookup p.1=some p.2
 |[],_,_,h=>h
 |(n,k)::r,acc,hn,h=>by
  unfold closOf;split
  .rename_i hk;obtain⟨c,hc⟩:=hn (n,k) HV vu!;refine pF cells r _ vv! λp hp=>?_;obtain rfl|hp:=HQ.mp hp
   .have bu:cells.lookup n=some c:=hc;rw[bu];rfl
   .exact h p hp
  .exact pF cells r _ vv! h
def pH(cells:bm_):∀(names:fc_) (acc:bm_) (x:Str),(∃c,(x,c)∈acc)->∃c,(x,c)∈closOf cells names acc
 |[],_,_,h=>h
 |(n,k)::r,acc,x,h=>by
  unfold closOf;split
  .exact pH cells r _ x (let⟨c,hc⟩:=h;⟨c,HP _ hc⟩)
  .exact pH cells r _ x h
def pG(cells:bm_):∀(names:fc_) (acc:bm_) (x:Str),(x,gU!)∈names->∃c,(x,c)∈closOf cells names acc
 |[],_,_,h=>nomatch h
 |(n,k)::r,acc,x,h=>by
  unfold closOf;obtain h|h:=HQ.mp h
  .cases h;rw[gV_];exact pH cells r _ _ ⟨_,HV⟩
  .split
   .exact vw_
   .exact vw_
def oA{β:Type}:∀{l:List (Str×β)} {x:Str} {c:β},(x,c)∈l->∃d,l.lookup x=some d
 |[],_,_,h=>nomatch h
 |(n,k)::r,x,c,h=>by
  cases O:(x==n)with
  |true=>exact⟨k,by simp[JP,O]⟩
  |false=>
   obtain h|h:=HQ.mp h
   .cases h;simp at O
   .obtain⟨d,hd⟩:=oA h;exact⟨d,by simp[JP,O,hd]⟩
def b3h{X:Cx}{scope:Scope}(h:∀p∈cg_,p.2=.free->∃c,X.env.cells.lookup p.1=some c):∃cl,Zj X scope cl:=by
 refine⟨closOf X.env.cells scope.names [],?_,lM_,λx e=>?_⟩
 .have e:=sS (env:=X.env) scope.names [] h;simp only[closureFor];rw[show(forIn scope.names ([]:List fc!) λx r=>(match x with|(name,kind)=>if(kind==NameKind.free)=true then(do let a <-cellOf X.env name;pure vt!)else pure jC!:Sem vt_))=pure (closOf X.env.cells scope.names [])from e];rfl
 .exact pF X.env.cells scope.names [] h qY! (x,c) (LL e)
 .obtain⟨c,hc⟩:=pG X.env.cells scope.names [] x (LL e);exact oA hc
def Nm(X:Cx)(scope:Scope)(cl:bm_)(C:xz!)(N:p!)(al:xA!)(bc:Hp)(fp:aw!):Cx:=
 {X with N:=N,s₀:=al,H₀:=bc,env:=compEnvC scope cl C X.env,outer:=X.stack,stack:=X.stack,ex:=fp,fn:=λ_=>false,pn:=[],xe:=λ_ _=>False}
def mE{env:Env}:∀{names:fc_} {x:Str},(∀y∈names,y.2≠.cell)->
  ((jD_).lookup x=some .cell\/
     (jD_).lookup x=some .free)->names.lookup x=some .free
 |[],_,_,h=>by simp at h
 |(n,k)::r,x,hc,h=>by
  have ih:=@mE env r x λy hy=>hc y d7!;have hk:k≠.cell:=hc (n,k) HV;rw[HZ]at h;by_cases hf:nH!=true
  .simp only[hf,JT]at h;cases O:x==n with
   |true=>
    simp only[JP,O];simp only[IZ,LW]at hf;rw[hf.1.1]
   |false=>
    simp only[JP,O]at h ⊢;exact ih h
  .simp only[hf]at h;cases O:x==n with
   |true=>
    simp only[JA,JM,JP,O]at h ⊢;obtain h|h:=h
    .cases h;exact absurd rfl hk
    .exact h
   |false=>
    show"#1";exact ih h
def mF{env:Env}:∀{names:fc_} {x:Str},names.lookup x=some .free->
  ((jD_).lookup x=some .cell\/
     (jD_).lookup x=some .free)
 |[],_,h=>by simp at h
 |(n,k)::r,x,h=>by
  have ih:=@mF env r x;rw[HZ];by_cases hf:nH!=true
  .simp only[hf,JT];cases O:x==n with
   |true=>exact .inl (by simp[JP,O])
   |false=>
    simp only[JP,O]at h ⊢;exact ih h
  .simp only[hf];cases O:x==n with
   |true=>
    show"#1";exact .inr h
   |false=>
    show"#1";exact ih h
structure Dm(X:Cx)(scope:Scope)(NF:p!)(ix:m_):Prop where
 len:NF.length=ix.length
 at_:∀(k:Nat) (x:Str),NF[k]?=some x->∃j,ix[k]?=some j/\X.N[j]?=some x/\scope.names.lookup x=some .free/\qO_
def Dm.nil{X:Cx}:Dm X scope [] []:=⟨rfl,λk x e=>by simp at e⟩
def Dm.cons{X:Cx}{scope:Scope}{j:Nat}{ix:m_}(h:dh!)(B:vy!:=by rfl)(Y:scope.names.lookup x=some .free:=by rfl)
  (h3:X.env.kindOf x=some .cell\/X.env.kindOf x=some .free:=by first|exact Or.inl rfl|exact Or.inr rfl):Dm X scope (x::NF) (j::ix):=
 ⟨by simp[h.len],λk y e=>by
  cases k with
  |zero=>simp at e;subst e;exact⟨j,rfl,B,Y,h3⟩
  |succ k=>simpa using h.at_ k y cS!⟩
def Pp(nl:Nat)(ix:m_)(Z:St):St:=List.replicate nl none++ix.map λj=>(Z[j]?).join
def c9g{X:Cx}{J:n_}{Z:St}{H2:Hp}{s2:xA!}{scope:Scope}{cl:bm_}{fp:aw!}
  (cg:dh_)(ce:di!)(b8:nK_)(I2:nJ_)(f2:nJ!)(flt:vz!)(hC:P!<=C):
  (Nm X scope cl C N s2 H2 fp).Ok where
 mod:=I2.ok.mod
 kind:=cg
 glob:=I2.ok.glob
 blt:=I2.ok.blt
 above:=hC
 inj:=λx y c B Y=>I2.ok.inj x y c (b8.sub x c B) (b8.sub y c Y)
 has:=λx h=>b8.all x (mE ce h)
 cab:=λ_ _ h=>nomatch h
 hd:=I2.ok.hd
 frames:=I2.ok.frames
 stk:=.inl rfl
 exf:=λb hb=>⟨JK (IV jE_ hC),λx c h=>(iJ!).2.2.2.2.1 x c gW!⟩
 bs:=I2.bs
 bsz:=JD I2.ok.bsz I2.sz
 noex:=λb o e hb=>by
  obtain z|z:=(iJ!).2.2.2.1
  .exact I2.ok.noex b o e z
  .exact absurd (IV cU! (JD I2.ok.bsz z)) dF_
 exfs:=λb hb hf=>by
  obtain⟨_,f1,f3,_⟩:=f2 b hb;obtain z|z:=HQ.mp (I2.stkSub b hf)
  .exact f1 z
  .exact f3 z
 funs:=I2.stack
 frf:=I2.stkFree
def c0f{X:Cx}{J:n_}{Z:St}{H2:Hp}{s2:xA!}{scope:Scope}{cl:bm_}{D:xz!}{oD:Obj}{NL:p!}{ix:m_}{fp:aw!}{h₁:Heap}{t:Nat}{m:y_}
  (cg:dh_)(ce:di!)(b8:nK_)(cap:dh!)(I2:nJ_)(f2:nJ!)(flt:vz!)
  (hC:P!<=C)(hD:P!<=D)(ji:D≠C)(ao:∀b u,s2.heap.get? b=some u->h₁.get? b=some u)(hn:h₁.Ns C m)(xy:h₁.get? D=some oD)(xz:∀v,oD.data≠.cell v):
  Inv (Nm X scope cl C gW_ s2 H2 fp) (dj!++[(D,oD)]) nM! H2 {s2 with heap:=h₁,toks:=t}:=by
 refine⟨c9g cg ce b8 I2 f2 flt hC,rfl,I2.bare,Un.kept ao,⟨m,hn,qV_⟩,λx c h=>?_,I2.hok.fresh hC,λx c h=>I2.freeC x c gW!,eH!,I2.hok.kept ao,?_⟩
 .have vx:gW_[i]?=some x:=e1;unfold Pp at e2;by_cases hi:i<NL.length
  .rw[KO gF_,OJ]at e2;rw[IA hi]at e2;cases e2
  .rw[e4_,JG,NG]at e2;rw[e4_]at vx;obtain⟨j,hj,hN,hf,hk⟩:=cap.at_ _ _ vx;rw[hj]at e2;have vy:(Z[j]?).join=some v:=JN e2;have e4:Z[j]?=some dG_:=by
    cases q:Z[j]? with
    |none=>rw[q]at vy;cases vy
    |some o=>rw[q]at vy;exact congrArg some vy
   obtain⟨m2,_,hl⟩:=I2.loc;have hv:Yb X.env.scope x:=hk.elim (λz=>.inr dj_) λz=>.inr d8_;obtain⟨u,r,l⟩:=hl j x v hN e4 hv;refine⟨u,r,.inr ?_⟩;obtain⟨k,_⟩|⟨_,c,hc,z⟩:=l
   .obtain z|z:=hk
    .rw[z]at k;cases k
    .rw[z]at k;cases k
   .obtain⟨c',bu⟩:=b8.all x hf;have e5:=b8.sub x c' bu;rw[hc]at e5;cases e5;obtain⟨o,ho,hd⟩:=z;exact⟨mF hf,c,bu,⟨o,ao _ _ ho,hd⟩⟩
 .obtain⟨v,o,ho,hd⟩:=I2.cell x c gW!;exact⟨v,o,ao _ _ ho,hd⟩
 .have UG:∀b,b≠X.env.locals->b∉X.fs->b∉frs X.stack:=λb B Y h3=>(HQ.mp (I2.stkSub b h3)).elim B Y;have bo:p∈dj!++[(D,oD)]:=by simpa[Nm]using hp
  obtain bo|bo:=HU.mp bo
  .obtain⟨e,n,ne,nf,d⟩:=I2.pin p bo;exact⟨ao _ _ e,n,JK (IV cU! hC),UG _ ne nf,d⟩
  .have e:p=(D,oD):=by simpa using bo
   subst e;exact⟨xy,I2.hok.fresh hD,ji,UG _ (OT (IV I2.lt hD)) (I2.nofs hD),xz⟩
 .show(nM!).length=(gW_).length;unfold Pp;rw[IL,IL,IF,NG,cap.len]
def a4b{R:s5!}{E:p_}(I:Nat->Shared->Prop)
  (hE:∀e s',E e s'->notedBy r_ A env (λe s'=>R (.error e) s') e s')
  (turn:∀n s,I n s->wpAny r_ A (pyNext it) (λr aj=>match r with
   |none=>R (.ok .next) aj
   |some v=>wpAny r_ A (letOwnedTupleGo vj it v) (λ_ UH=>wpAny r_ A (assign vj env v) (λ_ al=>
     wpAny r_ A (forIn c7 true λc r=>if r=true then do let ok <-isTrue c env (eval c env);pure vB! else pure jC!) (λok dt=>
      if ok=true then wpAny r_ A (eval dw env) (λx vz=>
       wpAny r_ A (call (.builtin "list.append") [acc,x]) (λ_ UI=>∃m,m<n/\I m UI) E vz) E dt
      else∃m,m<n/\I m dt) E al) E UH) E aj) E s)
  (n:Nat) (h:I n s):codeAny r_ A (.compLoop (.ListComp dw [⟨vj,iter,c7,0⟩] scope pos) 0 it acc env) R s:=by
 refine codeAny_loop rfl I (λn s hI=>?_) n h;refine wpAny_noted ?_;rw[compTurn_list];refine HL (QM (HL (KS (turn n s hI) (λr aj h₁=>?_) hE)));cases r with
 |none=>exact HN h₁
 |some v=>
  refine HL (KS h₁ (λ_ UH YC=>?_) hE);refine HL (KS YC (λ_ al rj=>HL (KS rj (λok dt vp=>?_) hE)) hE);cases ok with
  |false=>exact HN ⟨rfl,vp⟩
  |true=>
   exact HL (HL (KS vp (λx vz YD=>HL (KS YD (λ_ UI YE=>HN (HN ⟨rfl,YE⟩)) hE)) hE))
def Py(X:Cx)(c7:bM!)(t:TT):Prop:=
 ∀(J:n_) (s:xA!) (Z:St) (H:Hp) (Q:dI!),Inv X J Z H s->t Z H Q->
  wpAny e_ X.A (forIn c7 true λc r=>if r=true then do let ok <-isTrue c X.env (eval c X.env);pure vB! else pure jC!) ip! X.xe s
def BK:TT:=λ_ H Q=>Q true H
def a5r{X:Cx}:Py X [] BK:=λJ s Z H Q I h=>wpAny_tests_nil ⟨H,I,h⟩
def a5q{X:Cx}{t:TT}(h:PT X c t):Py X [c] t:=λJ s Z H Q I hw=>wpAny_tests_one rB!
def Wj(ac:It)(g:TG)(tt:TT)(te:TE)(Fin:cZ!)(Z:St)(H:Hp):Prop:=∃W:Nat->Nat->List V->St->Hp->Prop,(∃m,W 0 m [] Z H)/\∀i m ys Z H,W i m ys Z H->ac_<=sizeLine/\
 ((ac.stop i H/\Fin ys H)\/(ac.go i H/\∀x H',ac.yld i H x H'->g x Z H' λcz H2=>tt cz H2 λb H3=>if b=true then te cz H3 λy H4=>∃m',m'<m/\W aX_ m' (ys++[y]) cz H4 else∃m',m'<m/\W aX_ m' ys cz H3))
abbrev Uo(us:i!)(n:Nat):Obj:={cls:=.type "list",data:=.seq us.toArray n}
def a0o{X:Cx}{scope:Scope}{NL:p!}{ix:m_}{cl:bm_}{g:TG}{tt:TT}{te:TE}{E:p_}
  {J:n_}{Z:St}{H2:Hp}{s2:xA!}{fp:aw!}{tn:dN_}{ac:It}{Fin:cZ!}{RR:Value->Addr->Result->Shared->Prop}
  (cg:dh_)(ce:di!)(b8:nK_)(cap:dh!)(calm:a6_)
  (hg:∀C al bc fp,PG ch_ tg g)(hi:∀C al bc fp,Py ch_ c7 tt)(he:∀C al bc fp,PE ch_ dw te)
  (I2:nJ_)(T:Ti X.prog X.w X.K tg ac fp it tn)(bf:tn 0 s2.heap)(f2:nJ!)(hw:Wj ac g tt te Fin nM! H2)
  (YF:∀(D C:xz!) (us:i!) (n:Nat) (ys:l_) (H':Hp) (s':xA!),Inv X J Z H' s'->s'.heap.get? D=some (Uo us n)->Bc ys us->ac_<=sizeLine->H' D=none->P!<=D->P!<=C->D≠C->H' C=none->
   (∃m,s'.heap.Ns C m)->Fin ys H'->RR (.ref D) C (.ok .next) s'):
  wpAny e_ X.A (newList []) (λacc dt=>wpAny e_ X.A (newFunctionEnv scope X.env.globals cl [] X.env.qual none .none (some X.env)) (λUJ vz=>
   codeAny e_ X.A (.compStart gZ! 0 b8! acc {UJ with scope:=relabel scope X.env}) (RR acc UJ.locals) vz) E dt) E s2:=by
 obtain⟨W,⟨m0,w0⟩,turn⟩:=hw;have flt:∀b∈fp,b<P!:=λb hb=>let⟨o,e,_⟩:=T.obj _ _ bf b hb;IY e;refine KY (wpAny_newFunctionEnv ce (by intro y hy;simp at hy) (λh₁ yh v0=>?_) cg);dsimp only at yh v0 ⊢;generalize yi:s2.heap.push {cls:=.type "list",dict:=none,data:=.seq (vD_).toArray}=G2 at yh v0 ⊢;have hC:gZ_=P!+1:=by rw[<-yi,OL]
 have ji:P!≠gZ_:=by rw[hC];exact JK (QC _)
 have UK:P!<=gZ_:=by rw[hC];exact OC _
 have UL:∀b,b<P!->b≠gZ_:=λb hb=>by rw[hC];exact JK (Nat.lt_succ_of_lt hb)
 have ao:∀b o,s2.heap.get? b=some o->h₁.get? b=some o:=λb o e=>v0.extBut b o (UL b cU!) (HS _ (yi▸HS _ e));have YG:h₁.get? P!=some (Uo [] 0):=v0.extBut _ _ ji (HS _ (yi▸IU _ rfl));have p5:tn 0 h₁:=T.keep _ _ _ bf λb _ o e=>ao b o e;have I1:=c0f (NL:=NL) (t:=s2.toks+(vE_).length) cg ce b8 cap I2 f2 flt UK x_ ji ao yh YG vF!;have mz:∀{H':Hp} {oD:Obj},gq!->∀b∈fp,Ji ea_ (dj!++[(P!,oD)]) H' b:=λ{H' oD} hn b hb=>by
  obtain⟨_,f1,f3,f4,f5,f6⟩:=f2 b hb;refine⟨hn b hb,UL b jE_,λz=>(HQ.mp (I2.stkSub b z)).elim f1 f3,.inl hb,λx c h=>f5 x c gW!,eH!⟩;have bo:p∈dj!++[(P!,oD)]:=by simpa[Nm]using hp
  obtain bo|bo:=HU.mp bo
  .exact f6 p bo
  .have e:p=(P!,oD):=by simpa using bo
   subst e;exact OT jE_
 have loop:∀dt:Shared,dt={s2 with heap:=h₁,toks:=s2.toks+(vE_).length}->
   codeAny e_ X.A (.compLoop gZ! 0 b8! (.ref P!) (compEnvC scope cl G2.objs.size X.env)) (RR (.ref P!) gZ_) dt:=by
  rintro dt rfl;refine a4b (E:=vG!) (λk s'=>∃i ys us n σ H',Inv ea_ (dj!++[jG_]) σ H' s'/\tn i s'.heap/\gq!/\Bc ys us/\W i k ys σ H')
   (λ_ _ z=>z.elim) ?_ m0 ⟨0,[],[],0,_,H2,I1,p5,sf!,.nil,w0⟩
  rintro k s' ⟨i,ys,us,n,σ,H',I',h2,v7,rv,w'⟩;obtain⟨am,yj⟩:=turn i k ys σ H' w';obtain⟨stop,fin⟩|⟨go,step⟩:=yj
  .refine dO (T.done ea_ rfl rfl rfl calm i _ s' σ H' _ I' (mz v7) h2 stop) λr s4 ⟨L,I4⟩=>?_;subst L;have UM:=I4.pin jG_ (by simp[Nm]);have IX:Inv X J Z H' s4:=I2.call' (ch:=fp) I4.os I4.base I4.hok I4.bare λb hb=>by
    obtain⟨_,f1,f3,f4,f5,f6⟩:=f2 b hb;exact⟨f4,f1,f5,f6⟩
   obtain⟨mC,YH,_⟩:=I4.loc;exact YF _ _ us n ys H' s4 IX UM.1 rv am UM.2.1 x_ UK ji I4.free ⟨mC,YH⟩ fin
  .refine dO (T.item ea_ rfl rfl rfl calm i _ s' σ H' _ I' (mz v7) h2 go) λr s4 ⟨u,L,h4⟩=>?_;subst L;refine dO h4 λ_ s5 ⟨x,H5,I5,r5,y5,m7,xw⟩=>?_;have xx:=I5.pinned (mz xw) sh!;refine dO (hg _ _ _ _ _ s5 σ H5 x u _ xx r5 sg_) λ_ s6 ⟨lg,H6,I6,q6⟩=>?_;refine dO (hi _ _ _ _ _ s6 lg H6 _ I6 q6) λok s7 ⟨H7,I7,q7⟩=>?_;have UN:∀{UO:St} {H8:Hp} {s8:xA!},Inv ea_ ((dj!++[jG_])++Ra fp s5.heap) UO H8 s8->tn aX_ s8.heap/\∀b∈fp,H8 b=none:=λ{UO H8 s8} I8=>by
    refine⟨T.keep _ _ _ m7 λb hb o e=>(vH_).1,bA_⟩;obtain⟨o,e,d⟩:=T.obj _ _ m7 b hb;exact(vH_).2.1
   cases ok with
   |false=>
    simp only[JA,JM]at q7 ⊢;obtain⟨m',hm,w7⟩:=q7;obtain⟨t7,n7⟩:=UN I7;exact⟨m',hm,i+1,ys,us,n,lg,H7,iK!,t7,n7,rv,w7⟩
   |true=>
    simp only[JT]at q7 ⊢;refine dO (he _ _ _ _ _ s7 lg H7 _ I7 q7) λyv s8 ⟨y,H8,I8,r8,m',hm,w8⟩=>?_;obtain⟨t8,n8⟩:=UN I8;have pD:=I8.pin jG_ (II _ (IS _ d_));have YI:ao!=ac_:=rv.length.symm;refine wpAny_list_append_plain (items:=cD_) (hsz:=by simpa[YI]using am) ⟨n,pD.1⟩ λh9 YJ UP=>?_;obtain⟨n9,e9⟩:=YJ;have YK:Inv ea_ dj! lg H8 s8:=I8.pins_of λp hp=>I8.pin p (II _ (IS _ (IS _ hp)));have I9:Inv ea_ dj! lg H8 {s8 with heap:=h9,toks:=s8.toks}:=by
     refine YK.turned (it:=P!) (λb o hb e=>(UP.2 b hb).trans e) pD.2.1 ji (.inr x_) (λx c h=>?_) λp hp=>?_
     .obtain⟨v,o,ho,_⟩:=I2.cell x c gW!;exact JK ie_
     .have bo:p∈X.pn++J:=by simpa[Nm]using hp
      exact JK (IY (I2.pin p bo).1)
    have YL:h9.get? P!=some (Uo (us++[yv]) n9):=by
     rw[e9,List.push_toArray]
    refine⟨m',hm,i+1,ys++[y],us++[yv],n9,lg,H8,I9.pins_of λp hp=>?_,T.keep _ _ _ t8 λb hb o e=>(UP.2 b (JK jE_)).trans e,n8,rv.append (.cons r8 .nil),w8⟩;obtain hp|hp:=HU.mp hp
    .exact I9.pin p (II _ hp)
    .have e:p=(P!,Uo (us++[yv]) n9):=by simpa using hp
     subst e;exact⟨YL,pD.2.1,pD.2.2.1,pD.2.2.2.1,jH!⟩
 exact codeAny_compStart_list (loop _ rfl) (T.self _ 0 _ _ _ p5 (loop _ rfl))
def Zp(nl:Nat)(ix:m_)(wi:TI)(g:TG)(tt:TT)(te:TE):TE:=λZ H Q=>wi Z H λac H1=>Wj ac g tt te (λys H'=>∀p,H' p=none->Q c9_ (upd H' p ba!)) (Pp nl ix Z) H1
def b2e{X:Cx}{scope:Scope}{NL:p!}{ix:m_}{wi:TI}{g:TG}{tt:TT}{te:TE}
  (cg:dh_)(ce:di!)(j3:∀y∈cg_,y.2=.local->scope.names.lookup y.1=some .local)
  (ie:g1!)(cap:dh!)(calm:a6_)(ax:mq!)
  (hg:g1_)(hi:vJ!)(he:vJ_)
  (hs:c6_:=by intro _;rfl):
  PE X gZ! vK!:=by
 show"!Q";show"!R"
 rw[eval_ListComp];refine wpAny_comprehension_free (use:=none) rfl hs b8.eq cg j3 vK_;obtain⟨it,fp,tn,ac,H2,e,I2,T,bf,f2,hw⟩:=Y;subst e;refine a0o (RR:=λacc C=>compPost e_ X.A X.xe none aN! acc C) cg ce b8 cap calm (hg cl) (hi cl) (he cl) I2 T bf f2 hw λD C us n ys H' s' I' eD rv am nD hD hC ji nC ⟨m,hn⟩ fin=>?_;refine⟨m,hn,λh' bx=>?_⟩;have f7:∀b,b<P!->b≠C/\b≠D:=λb hb=>vM!;have p6:∀x c,X.env.cells.lookup x=some c->c<P!:=λx c h=>let⟨_,_,ho,_⟩:=I2.cell x c h;IY ho;have r9:∀p∈X.pn++J,p.1<P!:=λp hp=>IY (I2.pin p hp).1;have IC:Inv X J Z H' {s' with heap:=h',toks:=s'.toks}:=I'.turned (it:=C) vM_ nC (HY (g2!).1) vN! vO! λp hp=>(jI!).1;have ID:=IC.track (D:=D) (us:=us) (n:=n) ((bx.2 D ji).trans eD) rv am nD (JD I2.sz hD) (HY (g2!).2) vO_ λp hp=>(jI!).2;exact⟨.ref D,_,ID,rfl,fin D nD⟩
end L2
namespace DL
open PySem PySem.Spec PyProof.Rows L2
abbrev St:=L2.St
inductive D where
 |non|bl (b:Bool)|int (i:Int)|str (x:Str)|tup (xs:b!)|lst (xs:b!)|fn (a:xz!)|dk (kvs:nT!)
mutual
noncomputable def Au(K:xB!)(H:Hp):D->V->Prop
 |.non,v=>v=V.non
 |.bl b,v=>v=V.bl b
 |.int i,v=>v=V.int i
 |.str x,v=>v=V.str x
 |.tup xs,v=>∃a vs,v=V.ref a/\Gc K H a vs/\Ao K H xs vs
 |.lst xs,v=>∃a vs,v=V.ref a/\Fn K H a vs/\Ao K H xs vs
 |.fn a,v=>v=V.ref a
 |.dk kvs,v=>∃a,v=V.ref a/\Rd H a dT_
noncomputable def Ao(K:xB!)(H:Hp):List D->List V->Prop
 |[],vs=>vs=[]
 |d::ds,vs=>∃v r,vs=v::r/\Au K H d v/\Ao K H ds r
end
mutual
noncomputable def Ei:D->Bool
 |.lst _=>false
 |.dk _=>false
 |.tup xs=>Fd xs
 |_=>true
noncomputable def Fd:List D->Bool
 |[]=>true
 |d::ds=>Ei d&&Fd ds
end
mutual
noncomputable def Ij:D->Nat
 |.lst xs=>Dj xs+1
 |.tup xs=>Dj xs+1
 |_=>0
noncomputable def Dj:List D->Nat
 |[]=>0
 |d::ds=>max (Ij d) (Dj ds)
end
section
variable{K:xB!}{H H':Hp}
mutual
theorem Au.map(ht:jJ!)(hl:vP_)(hd:vQ!):∀(d:D) (v:V),Au K H d v->Au K H' d v
 |.non,_,h=>h
 |.bl _,_,h=>h
 |.int _,_,h=>h
 |.str _,_,h=>h
 |.tup xs,_,h=>by
  show"!U";exact⟨a,vs,e,ht a vs q,vQ_⟩
 |.lst xs,_,h=>by
  show"!U";exact⟨a,vs,e,hl a vs q,vQ_⟩
 |.fn _,_,h=>h
 |.dk kvs,_,h=>by
  unfold Au at h ⊢;obtain⟨a,e,q⟩:=h;exact⟨a,e,hd a kvs q⟩
theorem Ao.map(ht:jJ!)(hl:vP_)(hd:vQ!):∀(ds:b!) (vs:l_),Ao K H ds vs->Ao K H' ds vs
 |[],_,h=>h
 |d::ds,_,h=>by
  unfold Ao at h ⊢;obtain⟨v,r,e,q,t⟩:=h;exact⟨v,r,e,Au.map ht hl hd d v q,Ao.map ht hl hd ds r t⟩
end
mutual
theorem Au.mapT(ht:jJ!):∀(d:D) (v:V),Ei d=true->Au K H d v->Au K H' d v
 |.non,_,_,h=>h
 |.bl _,_,_,h=>h
 |.int _,_,_,h=>h
 |.str _,_,_,h=>h
 |.tup xs,_,n,h=>by
  unfold Ei at n;show"!U";exact⟨a,vs,e,ht a vs q,Ao.mapT ht xs vs n r⟩
 |.lst xs,_,n,_=>by
  unfold Ei at n;cases n
 |.fn _,_,_,h=>h
 |.dk _,_,n,_=>by
  unfold Ei at n;cases n
theorem Ao.mapT(ht:jJ!):∀(ds:b!) (vs:l_),Fd ds=true->Ao K H ds vs->Ao K H' ds vs
 |[],_,_,h=>h
 |d::ds,_,n,h=>by
  unfold Fd at n;rw[IZ]at n;unfold Ao at h ⊢;obtain⟨v,r,e,q,t⟩:=h;exact⟨v,r,e,Au.mapT ht d v n.1 q,Ao.mapT ht ds r n.2 t⟩
end
def cB(e:fb_){a:xz!}(h:Gc K H a xs):Gc K H' a xs:=by
 rcases h with(h|⟨o,h⟩)|h
 .exact vp_
 .exact vq!
 .exact .inr h
def b1n(e:fb_){a:xz!}{o:HO}(h:Rd H a o):Rd H' a o:=by
 obtain h|⟨u,h⟩:=h
 .exact .inl (e _ _ h)
 .exact .inr ⟨u,e _ _ h⟩
def Au.mono(e:fb_)(h:g2_):Au K H' d v:=Au.map vR_ vS! vS_ d v h
def Ao.mono(e:fb_)(h:cE!):Ao K H' ds vs:=Ao.map vR_ vS! vS_ ds vs h
def Au.non:Au K H .non V.non:=by unfold Au;rfl
def Au.bl{b:Bool}:Au K H bM_ (V.bl b):=by unfold Au;rfl
def Au.int{i:Int}:Au K H by_ (V.int i):=by unfold Au;rfl
def Au.str:Au K H dK! (V.str x):=by unfold Au;rfl
def Au.fn{a:xz!}:Au K H ci_ ff_:=by unfold Au;rfl
def Au.tup{a:xz!}(h:Gc K H a vs)(r:cE!):Au K H dk_ ff_:=by unfold Au;exact vT_
def Au.lst{a:xz!}(h:Fn K H a vs)(r:cE!):Au K H cj! ff_:=by unfold Au;exact vT_
def Ao.nil:Ao K H [] []:=by unfold Ao;rfl
def Ao.cons(h:g2_)(t:cE!):Ao K H ed_ (v::vs):=by unfold Ao;exact⟨v,vs,rfl,h,t⟩
def aJ:∀{ds:b!} {vs:l_},Ao K H ds vs->f_=bB_
 |[],vs,h=>by unfold Ao at h;subst h;rfl
 |d::ds,vs,h=>by
  unfold Ao at h;obtain⟨v,r,e,_,t⟩:=h;rw[e,IH,IH,aJ t]
def iN:∀{ds:b!} {vs:l_} {i:Nat} {d:D},Ao K H ds vs->ds[i]?=some d->∃v,vs[i]?=some v/\Au K H d v
 |[],_,_,_,_,e=>by simp at e
 |c::ds,vs,i,d,h,e=>by
  unfold Ao at h;obtain⟨v,r,e1,q,t⟩:=h;subst e1;cases i with
  |zero=>simp at e;subst e;exact⟨v,rfl,q⟩
  |succ i=>
   obtain⟨u,B,Y⟩:=iN (i:=i) (d:=d) t cS!;exact⟨u,h7!,Y⟩
def cY:∀{ds es:b!} {vs ws:l_},Ao K H ds vs->Ao K H es ws->Ao K H (ds++es) (vs++ws)
 |[],_,_,_,h,k=>by unfold Ao at h;subst h;exact k
 |c::ds,_,vs,_,h,k=>by
  show"!L";exact Ao.cons q (cY t k)
def rT:∀{ds:b!} {vs:l_} (n:Nat),Ao K H ds vs->Ao K H (ds.take n) (vs.take n)
 |_,_,0,_=>Ao.nil
 |[],_,n+1,h=>by unfold Ao at h;subst h;exact Ao.nil
 |c::ds,vs,n+1,h=>by
  show"!L";exact Ao.cons q (rT n t)
def rV:∀{ds:b!} {vs:l_} (n:Nat),Ao K H ds vs->Ao K H nW! (vs.drop n)
 |_,_,0,h=>h
 |[],_,n+1,h=>by unfold Ao at h;subst h;exact Ao.nil
 |c::ds,vs,n+1,h=>by
  show"!L";exact rV n t
def vR(hd:g2_):∀{ds:b!} {vs:l_} (n:Nat),Ao K H ds vs->Ao K H (ds.set n d) (vs.set n v)
 |[],_,_,h=>by unfold Ao at h;subst h;exact Ao.nil
 |c::ds,vs,n,h=>by
  unfold Ao at h;obtain⟨u,r,e1,q,t⟩:=h;subst e1;cases n with
  |zero=>exact Ao.cons hd t
  |succ n=>exact Ao.cons q (vR hd n t)
def cM(h:Ao K H [] vs):vs=[]:=by unfold Ao at h;exact h
def bN(h:Ao K H ed_ vs):∃v r,vs=v::r/\Au K H d v/\Ao K H ds r:=by unfold Ao at h;exact h
def bT(h:Au K H dk_ v):∃a vs,v=V.ref a/\Gc K H a vs/\Ao K H ds vs:=by unfold Au at h;exact h
def bU(h:Au K H cj! v):∃a vs,v=V.ref a/\Fn K H a vs/\Ao K H ds vs:=by unfold Au at h;exact h
def bD{i:Int}(h:Au K H by_ v):v=V.int i:=by unfold Au at h;exact h
def cW{i:Bool}(h:Au K H (.bl i) v):v=V.bl i:=by unfold Au at h;exact h
def cG(h:Au K H jM! v):v=V.str i:=by unfold Au at h;exact h
def eF(h:Au K H .non v):v=V.non:=by unfold Au at h;exact h
def fZ{a:xz!}(h:Au K H ci_ v):v=V.ref a:=by unfold Au at h;exact h
def c6z{kvs:nT!}(h:Au K H (.dk kvs) v):∃a,v=V.ref a/\Rd H a dT_:=by unfold Au at h;exact h
def iM{o:HO}(h:cE_):Bj H fh!:=λb u e=>by rw[bC (cJ e h)];exact e
def fV(h:cE_)(r:cE!):Au K (upd H p (.tup vs)) dk_ nW_:=Au.tup (Gc.of bV) vV_
def dP(h:cE_)(r:cE!):Au K jN! cj! nW_:=Au.lst (Fn.of bV) vV_
end
structure Ck(G H G' H':Hp):Prop where
 g:Bj G G'
 h:Bj H H'
 sub:Bj G' H'
 new:∀b,G' b≠none->G b≠none\/H b=none
def Ck.refl{G H:Hp}(s:M_):Ck G H G H:=⟨fh_,Bj.refl H,s,cF!⟩
def Ck.trans{G H G1 H1 G2 H2:Hp}(a:Ck G H G1 H1)(b:Ck G1 H1 G2 H2):Ck G H G2 H2:=
 ⟨a.g.trans b.g,a.h.trans b.h,b.sub,λc h=>(b.new c h).elim (λz=>a.new c z) λz=>.inr (a.h.free z)⟩
def Ck.laid{G H:Hp}{o:HO}(s:M_)(hp:cE_):Ck G H (upd G p o) fh!:=by
 refine⟨iM (s.free hp),iM hp,jN_,bo!⟩
 .by_cases hb:b=p
  .subst hb;rw[bV]at e ⊢;exact e
  .rw[bC hb]at e ⊢;exact s b u e
 .by_cases hb:b=p
  .subst hb;exact .inr hp
  .rw[bC hb]at h;exact .inl h
abbrev Ad:=List (Option D)
structure OR(K:xB!)(own:m_)(G H:Hp)(Z:St)(ρ:Ad):Prop where
 sub:Bj G H
 len:g5!=f4!
 at_:∀(i:Nat) (d:D),ρ[i]?=some ef!->i∉own->∃v,Z[i]?=some dG_/\Au K G d v
 own_:∀i∈own,∃p ds vs,ρ[i]?=some nX_/\Z[i]?=some cj_/\H p=some dl_/\G p=none/\Ao K G ds vs
 dis:∀i∈own,∀j∈own,i≠j->∀p q,Z[i]?=some cj_->Z[j]?=some (some (V.ref q))->p≠q
def OR.grow{K:xB!}{own:m_}{G H G' H':Hp}{Z:St}{ρ:Ad}(h:ck!)(x:jO!):OR K own G' H' Z ρ where
 sub:=x.sub
 len:=h.len
 at_:=λi d q n=>let⟨v,B,Y⟩:=h.at_ i d q n;vY!
 own_:=λi hi=>by
  obtain⟨p,ds,vs,B,Y,h3,h4,h5⟩:=h.own_ i hi;refine⟨p,ds,vs,B,Y,x.h _ _ h3,?_,h5.mono x.g⟩;cases q:G' p with
  |none=>rfl
  |some o=>
   rcases x.new p cg! with z|z
   .exact absurd h4 z
   .rw[h3]at z;cases z
 dis:=h.dis
def OR.set{K:xB!}{own:m_}{G H:Hp}{Z:St}{ρ:Ad}{i:Nat}(h:ck!)(hi:bp!)(r:cF_):OR K own G H eH_ ck_ where
 sub:=h.sub
 len:=by rw[LO,LO,h.len]
 at_:=λj c q n=>by
  by_cases hj:i=j
  .subst hj;by_cases hi:i<g5!
   .rw[KF hi]at q;cases q;exact⟨v,by rw[KF (by rw[<-h.len];exact hi)],r⟩
   .rw[JZ (by rw[LO];omega)]at q;cases q
  .rw[JH hj]at q;rw[JH hj];exact h.at_ j c q n
 own_:=λj hj=>by
  have ne:i≠j:=λe=>hi (e▸hj);rw[JH ne,JH ne];exact h.own_ j hj
 dis:=λj hj k hk b9 p q e1 e2=>by
  have ne:i≠j:=λe=>hi (e▸hj);have YM:i≠k:=λe=>hi (e▸hk);rw[JH ne]at e1;rw[JH YM]at e2;exact h.dis j hj k hk b9 p q e1 e2
def Ka(own:m_)(Z:St):List Addr:=own.filterMap λi=>match Z[i]? with|some (some (V.ref p))=>some p|_=>none
def nM{own:m_}{Z:St}(h:p∈Ka own Z):∃i∈own,Z[i]?=some cj_:=by
 obtain⟨i,hi,e⟩:=MZ.mp h;refine⟨i,hi,?_⟩;show"!6"
 .rename_i q he;cases e;exact he
 .cases e
def a5e{own:m_}{Z:St}{i:Nat}(hi:eg!)(h:qS_):p∈Ka own Z:=MZ.mpr ⟨i,hi,by rw[h]⟩
def Lc(own:m_)(Z:St)(G H:Hp):Hp:=λb=>if b∈Ka own Z then H b else G b
def OR.full{K:xB!}{own:m_}{G H:Hp}{Z:St}{ρ:Ad}(h:ck!):OR K [] fi_ H Z ρ:=by
 have s1:Bj G fi_:=λb o e=>by
  unfold Lc;split
  .exact h.sub b o e
  .exact e
 have s2:Bj fi_ H:=λb o e=>by
  unfold Lc at e;show"!6"
  .exact e
  .exact h.sub b o e
 refine⟨s2,h.len,nZ!,as!,as!⟩;by_cases hi:i∈own
 .obtain⟨p,ds,vs,B,Y,h3,h4,h5⟩:=h.own_ i hi;rw[B]at q;cases q;refine⟨_,Y,Au.lst (Fn.of (xs:=vs) ?_) (h5.mono s1)⟩;unfold Lc;rw[IA (a5e hi Y)];exact h3
 .obtain⟨v,B,Y⟩:=h.at_ i d q hi;exact⟨v,B,Y.mono s1⟩
def Le(ρ ρ':Ad):Prop:=g5!=ρ'.length/\∀(i:Nat) (d:D),ρ[i]?=some ef!->ρ'[i]?=some ef!
def OR.le{K:xB!}{G H:Hp}{Z:St}{ρ ρ':Ad}(h:OR K [] G H Z ρ')(l:Le ρ ρ'):OR K [] G H Z ρ:=⟨h.sub,l.1.trans h.len,λi d q n=>h.at_ i d (l.2 i d q) n,as!,as!⟩
def Le.set{ρ ρ':Ad}{i:Nat}(h:Le ρ ρ')(hi:ρ[i]?=some none):Le ρ (ρ'.set i ef!):=by
 refine⟨by rw[LO];exact h.1,λj c q=>?_⟩;have:i≠j:=λe=>by subst e;rw[hi]at q;cases q
 rw[JH this];exact h.2 j c q
def Le.refl(ρ:Ad):Le ρ ρ:=⟨rfl,λ_ _ h=>h⟩
def Ya(nl:Nat)(ix:m_)(ρ:Ad):Ad:=List.replicate nl none++ix.map λj=>(ρ[j]?).join
def OR.cap{K:xB!}{own:m_}{G H:Hp}{Z:St}{ρ:Ad}(h:ck!)(nl:Nat)(ix:m_)(O:jO_):OR K [] G H (Pp nl ix Z) n0!:=by
 unfold Pp Ya;refine⟨h.sub,G_,nZ!,as!,as!⟩;by_cases hi:i<nl
 .rw[KO gF_,OJ,IA hi]at q;cases q
 .rw[e4_,JG,NG]at q;rw[e4_,JG,NG];cases e:ix[i - nl]? with
  |none=>rw[e]at q;cases q
  |some j=>
   rw[e]at q;have q':(ρ[j]?).join=some d:=JN q;have q2:ρ[j]?=some ef!:=by
    cases z:ρ[j]? with
    |none=>rw[z]at q';cases q'
    |some o=>rw[z]at q';exact congrArg some q'
   obtain⟨v,B,Y⟩:=h.at_ j d q2 (O j (NW e));exact⟨v,by simp[B],Y⟩
inductive tD(K:xB!)(own:m_)(f:e!)(Z:St)(H:Hp)(Q:VK):Prop
 |mk (G:Hp) (ρ:Ad) (d:D) (o:ck!) (e:cl!) (k:∀v G' H',Ck G H G' H'->Au K G' d v->Q v H'):tD K own f Z H Q
inductive FZ(K:xB!)(own:m_)(f:as_)(Z:St)(H:Hp)(Q:cZ!):Prop
 |mk (G:Hp) (ρ:Ad) (ds:b!) (o:ck!) (e:f ρ=some ds) (k:∀vs G' H',Ck G H G' H'->Ao K G' ds vs->Q vs H'):FZ K own f Z H Q
inductive AA(K:xB!)(own:m_)(f:ad!)(Z:St)(H:Hp)(Q:dI!):Prop
 |mk (G:Hp) (ρ:Ad) (b:Bool) (o:ck!) (e:f ρ=some b) (k:∀G' H',Ck G H G' H'->Q b H'):AA K own f Z H Q
structure DE(X:Cx)(own:m_)(e:Expr)(f:e!):Prop where
 ok:PE X e (tD X.K own f)
structure DA(X:Cx)(own:m_)(es:bM!)(f:as_):Prop where
 ok:PA X es (FZ X.K own f)
structure DT(X:Cx)(own:m_)(e:Expr)(f:ad!):Prop where
 ok:PT X e v3!
structure DW(X:Cx)(own:m_)(e:Expr)(f:ad!):Prop where
 ok:PW X e v3!
section
variable{X:Cx}{own:List Nat}{e a b c:Expr}{es:List Expr}{pos:Pos}{f fa fb fc:Ad->Option D}{fs:Ad->Option (List D)}{ft fu:Ad->Option Bool}
def eW{t:TE}(h:is!)(hw:∀Z G H Q ρ d,OR X.K own G H Z ρ->f ρ=some d->(∀v G' H',Ck G H G' H'->Au X.K G' d v->Q v H')->t Z H Q):DE X own e f:=v3_
def c1f{t:TA}(h:gz!)(hw:∀Z G H Q ρ d,OR X.K own G H Z ρ->fs ρ=some d->(∀v G' H',Ck G H G' H'->Ao X.K G' d v->Q v H')->t Z H Q):DA X own es fs:=⟨λp J s Z H Q I ⟨G,ρ,d,er,e,k⟩=>h p J s Z H Q I n0_⟩
def xP{t:TT}(h:PT X e t)(hw:v4!):DT X own e ft:=v3_
def c6j{t:TT}(h:PW X e t)(hw:v4!):DW X own e ft:=⟨λwh J s Z H Q I ⟨G,ρ,d,er,e,k⟩=>h wh J s Z H Q I n0_⟩
def Ii(f:e!):Ad->Option D:=λρ=>(am!).bind λd=>if Ei d then some d else none
def uV(h:DE X [] e f):DE X own e (Ii f):=eW h.ok λZ G H Q ρ d er e k=>by
 obtain⟨d',e1,e2⟩:=HM.mp e;split at e2
 .rename_i hn;cases e2;refine⟨Lc own Z G H,ρ,d,er.full,e1,λv G' H' x r=>?_⟩;have YN:∀b,b∈Ka own Z->∃vs,G' b=some dl_:=λb hb=>by
   show"!M";refine⟨vs,x.g _ _ ?_⟩;unfold Lc;rw[IA hb];exact h3
  have hG:∀b,b∈Ka own Z->G b=none:=λb hb=>by
   show"!M";exact h4
  refine k v (λb=>if b∈Ka own Z then none else G' b) H' ⟨λb o z=>?_,x.h,λb o z=>?_,λb z=>?_⟩ (Au.mapT (λa vs q=>?_) d v hn r)
  .have hb:b∉Ka own Z:=λhb=>by rw[hG b hb]at z;cases z
   show n1!=some o;rw[HR hb];refine x.g _ _ ?_;unfold Lc;rw[HR hb];exact z
  .have z':n1!=some o:=z;split at z'
   .cases z'
   .exact x.sub _ _ z'
  .have z':n1!≠none:=z;split at z'
   .exact absurd rfl z'
   .rename_i hb;obtain y|y:=x.new b z'
    .unfold Lc at y;rw[HR hb]at y;exact .inl y
    .exact .inr y
  .have ne:∀u,G' a=some u->(∀ws,u≠.lst ws)->(if a∈Ka own Z then none else G' a)=some u:=λu e1 hu=>by
    rw[HR (λhb=>by obtain⟨ws,e2⟩:=YN a hb;rw[e1]at e2;exact hu ws (JN e2))];exact e1
   rcases q with(q|⟨o,q⟩)|q
   .exact .inl (.inl (ne _ q λ_ z=>nomatch z))
   .exact .inl (.inr ⟨o,ne _ q λ_ z=>nomatch z⟩)
   .exact .inr q
 .cases e2
def Aa(i:Nat):Ad->Option D:=λρ=>(ρ[i]?).join
nonrec def fC(d:D):Ad->Option D:=λ_=>some d
def join_some{ρ:Ad}{i:Nat}(h:(ρ[i]?).join=some d):ρ[i]?=some ef!:=by
 cases z:ρ[i]? with
 |none=>rw[z]at h;cases h
 |some o=>rw[z]at h;exact congrArg some h
def aA(i:Nat){x:Str}(hi:bp!:=by decide)(hN:ap_:=by rfl)(hv:c0!:=by first|exact Or.inl rfl|exact Or.inr a_|exact Or.inr bc_)(hd:H!:=by decide)
  (b6:c0_:=by decide):DE X own c1! (Aa i):=
 eW jR_ λZ G H Q ρ d er e k=>let⟨v,B,Y⟩:=er.at_ i d (join_some e) hi;⟨v,B,k v G H g7_ Y⟩
def c1e{t:TE}(h:is!)(ht:∀Z H Q,Q v H->t Z H Q)(r:∀H,Au X.K H d v):DE X own e (fC d):=
 eW h λZ G H Q ρ d' er e' k=>by
  cases e';exact ht Z H Q (k v G H g7_ (r G))
def aC{i:Int}{j:Nat}:DE X own rs_ (fC by_):=c1e c7i g8! λ_=>Au.int
def aU{j:Nat}:DE X own (.Constant jM! j pos) (fC jM!):=c1e b8c g8! λ_=>Au.str
def fA{i:Bool}{j:Nat}:DE X own (.Constant (.bool i) j pos) (fC (.bl i)):=c1e d0u g8! λ_=>Au.bl
def dM{j:Nat}:DE X own rt_ cm!:=c1e c7h g8! λ_=>Au.non
def c5a{x:Str}{i:Int}(hg:X!)(hm:X.mg x=some dD!)(hd:H!:=by decide):DE X own c1! (fC by_):=
 c1e (c3f (v:=V.int i) hg hm nz_ hd) g8! λ_=>Au.int
nonrec def f2(g:a1_)(fa fb:e!):Ad->Option D:=λρ=>(fj_).bind λx=>(jS_).bind λy=>g x y
def Ip(K:xB!)(r:R2)(g:a1_):Prop:=∀{x y:V} {dx dy d:D} {G H:Hp} {Q:VK},Bj G H->Au K G dx x->Au K G dy y->g dx dy=some d->jS!->r x y H Q
def two{g:a1_}{r:R2}(hg:eh_){Z:St}{G H:Hp}{Q:VK}{ρ:Ad}(er:OR X.K own G H Z ρ)(e:f2 g fa fb ρ=some d)(k:∀v G' H',Ck G H G' H'->Au X.K G' d v->Q v H'):
  BD r (tD X.K own fa) (tD X.K own fb) Z H Q:=by
 unfold f2 at e;show"!;";obtain⟨y,e2,e⟩:=HM.mp e;exact⟨G,ρ,x,er,e1,λu G1 H1 s1 r1=>⟨G1,ρ,y,dm!,e2,λw G2 H2 s2 r2=>hg s2.sub g8_ r2 e λv G' H' s3 r3=>k v G' H' (s1.trans g9!) r3⟩⟩
def aS{op:Operator}{r:R2}{g:a1_}(ho:mt_)(hg:eh_)(ha:Z!)(hb:cG_):DE X own mu! jT!:=
 eW v9! λZ G H Q ρ d er e k=>two hg er e k
def fS{op:CmpOp}{r:R2}{g:a1_}(ho:ca_)(hg:eh_)(ha:Z!)(hb:cG_)(hm:dK_):DE X own dL! jT!:=
 eW v9_ λZ G H Q ρ d er e k=>two hg er e k
def aM{r:R2}{g:a1_}(L:Wu X r)(hg:eh_)(ha:Z!)(hb:cG_)(hs:Qb b):DE X own nk! jT!:=
 eW wa! λZ G H Q ρ d er e k=>two hg er e k
nonrec def fT(f:e!):Ad->Option Bool:=λρ=>(am!).bind λd=>match d with|.bl b=>some b|_=>none
def kY{ρ:Ad}{b:Bool}(h:fT f ρ=some b):f ρ=some bM_:=by unfold fT at h;obtain⟨d,e,h⟩:=HM.mp h;cases d<;>first|(cases h;exact e)|cases h
def bM{op:CmpOp}{r:R2}{g:a1_}(ho:ca_)(hg:eh_)(ha:Z!)(hb:cG_)(hm:dK_):DT X own dL! (fT jT!):=
 xP wa_ λZ G H Q ρ d er e k=>two (own:=own) (Q:=wb!) hg er (kY e) λv G' H' s' r'=>by
  cases cW r';exact wc!
def fH(h:dm_)(he:is_:=by intro _;rfl):DT X own e (fT f):=
 xP (b7m h.ok he) λZ G H Q ρ d er e k=>⟨G,ρ,.bl d,er,kY e,λv G' H' s' r'=>by
  cases cW r';exact wc!⟩
def Wl:D->Option Bool
 |.lst xs=>some (! dT!)
 |.tup xs=>some (! dT!)
 |.bl b=>some b
 |.int i=>some gt!
 |.non=>some false
 |_=>none
def tR{K:xB!}{H:Hp}{ds:b!}{vs:l_}(h:cE!):(!ds.isEmpty)=!vs.isEmpty:=by have:=aJ h;cases ds<;>cases vs<;>simp_all
def a7o(h:dm_)(he:is_:=by intro _;rfl):DT X own e (λρ=>(am!).bind Wl):=
 xP (b7n h.ok he) λZ G H Q ρ b er e k=>by
  obtain⟨d,e1,e2⟩:=HM.mp e;refine⟨G,ρ,d,er,e1,λv G' H' s' r'=>⟨b,?_,n4!⟩⟩;cases d with
  |non=>cases eF r';cases e2;exact(rfl:false=false)
  |bl x=>cases cW r';cases e2;exact rfl
  |int i=>cases bD r';cases e2;exact(rfl:gt!=gt!)
  |str x=>cases e2
  |fn a=>cases e2
  |dk a=>cases e2
  |tup xs=>
   obtain⟨a,vs,e3,q,r3⟩:=bT r';subst e3;cases e2;exact .inr (.inl ⟨vs,cB s'.sub q,tR r3⟩)
  |lst xs=>
   obtain⟨a,vs,e3,q,r3⟩:=bU r';subst e3;cases e2;exact .inl ⟨vs,s'.sub.seq q,tR r3⟩
def Co(ft fu:ad!):Ad->Option Bool:=λρ=>(ha_).bind λb=>if b then fu ρ else some false
def Mn(ft fu:ad!):Ad->Option Bool:=λρ=>(ha_).bind λb=>if b then some true else fu ρ
def Cu(ft:ad!):Ad->Option Bool:=λρ=>(ha_).map (!·)
variable{rest:List Expr}
def nR(h:hb!):DW X own l6! ft:=wc_
def sO(h:hb!):DW X own l6_ ft:=wd!
def sP(ha:hb!)(hb:DW X own eL! fu):DW X own eL_ (Co ft fu):=
 c6j wd_ λZ G H Q ρ d er e k=>by
  obtain⟨x,e1,e⟩:=HM.mp e;refine n5!;cases x with
  |true=>exact mM we!
  |false=>cases e;exact mN (k G1 H1 s1)
def a0j(ha:hb!)(hb:DW X own eM! fu):DW X own eM_ (Mn ft fu):=
 c6j we_ λZ G H Q ρ d er e k=>by
  obtain⟨x,e1,e⟩:=HM.mp e;refine n5!;cases x with
  |false=>exact mN we!
  |true=>cases e;exact mM (k G1 H1 s1)
def uG(h:DW X own e ft):DT X own e ft:=⟨h.ok.pt⟩
def gH(h:hb!):DT X own eN! (Cu ft):=
 xP (b7o h.ok) λZ G H Q ρ d er e k=>by
  obtain⟨x,e1,rfl⟩:=IB.mp e;exact⟨G,ρ,x,er,e1,λG1 H1 s1=>k G1 H1 s1⟩
def Cq(fa fb:e!):Ad->Option D:=λρ=>(n6_).bind λb=>if b then fb ρ else some X_
def Et(fa fb:e!):Ad->Option D:=λρ=>(n6_).bind λb=>if b then some C! else fb ρ
def Ds(fa:e!):Ad->Option D:=λρ=>(n6_).map λb=>.bl (!b)
def gQ{op:BoolOp}(h:Z!):DE X own l7! fa:=wf!
def jN(ha:Z!)(hb:DE X own eL! fb):DE X own eL_ (Cq fa fb):=
 eW wf_ λZ G H Q ρ d er e k=>by
  obtain⟨x,e1,e⟩:=HM.mp e;refine n8!;cases cW r1;refine jV!;cases x with
  |true=>exact mM jU_
  |false=>cases e;exact mN wg_
def a0l(ha:Z!)(hb:DE X own eM! fb):DE X own eM_ (Et fa fb):=
 eW wh_ λZ G H Q ρ d er e k=>by
  obtain⟨x,e1,e⟩:=HM.mp e;refine n8!;cases cW r1;refine jV!;cases x with
  |false=>exact mN jU_
  |true=>cases e;exact mM wg_
def c1b(ha:Z!):DE X own eN! (Ds fa):=
 eW (b8g ha.ok) λZ G H Q ρ d er e k=>by
  obtain⟨x,e1,rfl⟩:=IB.mp e;refine n8!;cases cW r1;exact⟨x,rfl,wh!⟩
def Mo(ft:ad!)(fa fb:e!):Ad->Option D:=λρ=>(ha_).bind λb=>if b then fa ρ else fb ρ
def d1x(hc:DT X own c ft)(ha:Z!)(hb:cG_):DE X own l8_ (Mo ft fa fb):=
 eW wi_ λZ G H Q ρ d er e k=>by
  obtain⟨x,e1,e⟩:=HM.mp e;refine n5!;cases x with
  |true=>exact mM jU_
  |false=>exact mN jU_
nonrec def f3(g h:a1_)(fa fb fc:e!):Ad->Option D:=λρ=>(fj_).bind λx=>(jS_).bind λy=>(g x y).bind λz=>match z with
 |.bl true=>(fc ρ).bind λw=>h y w
 |.bl false=>some X_
 |_=>none
def Ag:Ad->Option aQ_:=λ_=>some []
def Ac(f:e!)(fs:as_):Ad->Option aQ_:=λρ=>(am!).bind λd=>(fk!).bind λds=>some ed_
def aK:DA X own [] Ag:=c1f gA λZ G H Q ρ d er e k=>by
 cases e;exact k [] G H g7_ Ao.nil
def aD(h:dm_)(hs:jV_)(bv:aB_:=by rfl):DA X own aO! (Ac f fs):=
 c1f wj! λZ G H Q ρ d er e' k=>by
  obtain⟨x,e1,e'⟩:=HM.mp e';obtain⟨xs,e2,e'⟩:=HM.mp e';cases e';exact⟨G,ρ,x,er,e1,λv G1 H1 s1 r1=>⟨G1,ρ,xs,dm!,e2,λvs G2 H2 s2 r2=>k _ G2 H2 dn_ (Ao.cons g8_ r2)⟩⟩
def Az(fs:as_):Ad->Option D:=λρ=>(fk!).bind λds=>if f_<=1000 then some dk_ else none
def Dl(fs:as_):Ad->Option D:=λρ=>(fk!).bind λds=>if f_<=1000 then some cj! else none
def gF{n:Nat}(h:n<=1000):n<=sizeLine:=NC (b3v h)
def dC{x1:Nat}(h:jV_):DE X own tt! (Az fs):=
 eW (b8b h.ok) λZ G H Q ρ d er e k=>by
  show"!G"
  .show"!F";refine⟨G,ρ,ds,er,e1,λvs G1 H1 s1 r1=>⟨wk!,λp hp=>k _ _ _ wl! (fV wm! r1)⟩⟩
  .cases e
def pC(h:jV_):DE X own iZ! (Dl fs):=
 eW jX! λZ G H Q ρ d er e k=>by
  show"!G"
  .show"!F";refine⟨G,ρ,ds,er,e1,λvs G1 H1 s1 r1=>⟨wk!,λp hp=>k _ _ _ wl! (dP wm! r1)⟩⟩
  .cases e
def So(K:xB!)(r:dQ!)(g:ai!):Prop:=∀{vs:l_} {ds:b!} {d:D} {G H:Hp} {Q:VK},Bj G H->Ao K G ds vs->g ds=some d->jS!->r vs H Q
nonrec def f1(g:ai!)(fs:as_):Ad->Option D:=λρ=>(fk!).bind g
def bQ{id:String}{x:Str}{r:dQ!}{g:ai!}(hc:mR!)(hd:So X.K r g)(hg:X!)(hm:c2!)(hv:m5!)(ha:jX_)(hn:c2_:=by decide)
  (be:H!:=by decide)(he:aB_:=by rfl)(az:a7_:=by rfl):DE X own bC! od!:=
 eW wn_ λZ G H Q ρ d er e' k=>by
  obtain⟨ds,e1,e'⟩:=HM.mp e';exact⟨G,ρ,ds,er,e1,λvs G1 H1 s1 r1=>hd s1.sub r1 e' λv G2 H2 s2 r2=>k v G2 H2 dn_ r2⟩
def Yp(K:xB!)(n:Nat)(g:ai!):Sp:=λvs H Q _=>bB_=n/\∃G ds d,Bj G H/\Ao K G ds vs/\g ds=some d/\∀v G' H',Ck G H G' H'->Au K G' d v->Q v H'
def c5c{k:Nat}{ps:p!}{g:ai!}{x:Str}(F:Fj X.prog X.w X.K X.mg X.base Pz k hr fd ps wo!)(L:cb_)(hg:X!)(hm:X.mg x=some bV_)(hk:W.keepIn X.K bV_=true)
  (hb:jY!)(ha:jX_)(hn:wo_:=by rfl)(am:wp!)
  (be:H!:=by decide)(he:aB_:=by rfl)(az:a7_:=by rfl):
  DE X own bC! od!:=
 eW (b2g F L hg hm hk hb .nil vX ha.ok be he az) λZ G H Q ρ d er e' k=>by
  obtain⟨ds,e1,e'⟩:=HM.mp e';refine⟨G,ρ,ds,er,e1,λvs G1 H1 s1 r1=>?_⟩;show Yp X.K ps.length g (vs++[]) H1 Q E0;rw[JC];exact⟨by rw[<-aJ r1];exact am ρ ds e1,G1,ds,d,s1.sub,r1,e',wg!⟩
end
def aX{ρ:Ad}{ds:b!}(h:Ag ρ=some ds):f_=0:=by cases h;rfl
def aI{f:e!}{fs:as_}{n:Nat}(hf:wp_):∀(ρ:Ad) (ds:b!),Ac f fs ρ=some ds->f_=n+1:=λρ ds e=>by
 show"!;";obtain⟨xs,e2,e⟩:=HM.mp e;cases e;rw[IH,hf ρ xs e2]
def oN{h:Heap}{its:W!}(p:PlainL h a its):∃n sl,h.get? a=some {cls:=.type "list",dict:=none,data:=.seq its n,slots:=sl}:=by obtain⟨⟨cls,dd,data,sl⟩,n,e,B,Y,h3⟩:=p;simp only at B Y h3;subst B Y h3;exact⟨n,sl,e⟩
section
variable{X:Cx}
def Zs(K:xB!):R2:=λx y H Q=>∃l b xs zs,x=.ref l/\y=.ref b/\Fn K H l xs/\Fn K H b zs/\k_+zs.length<=sizeLine/\∀p,H p=none->Q c9_ (upd H p u5_)
def c3k:Gs X eV! (Zs X.K):=by
 intro J s Z H x y v u Q I rx ry h;obtain⟨l,b,xs,zs,rfl,rfl,hH,hB,hz,q⟩:=h;cases rx;cases ry;obtain⟨its,r,pl,z⟩:=I.list hH;obtain⟨gu,r2,YO,z2⟩:=I.list hB;obtain⟨n,sl,e⟩:=oN pl;obtain⟨n2,jf,e2⟩:=oN YO;have B:=aN_;have Y:=r2.length;refine concat_meets de! ⟨_,e2,rfl⟩ PySem.noFill_list_add PySem.seq_list_add PySem.F.slot_list_add PySem.F.entry_list_add (PySem.F.args_list_add_2 _ _)
  (list_addW l b its.toArray gu.toArray n n2 none none sl jf of!) ⟨e,e2,?_⟩
 have ea:be!++gu.toArray=(its++gu).toArray:=by simp
 rw[ea];exact⟨.ref _,_,I.lnew (t':=s.toks) (r.append r2) wq!,rfl,q _ I.fresh⟩
def Xg(K:xB!):R2:=λx y H Q=>∃a b ys,x=.ref a/\y=.ref b/\Gc K H a []/\Gc K H b ys/\Q d2! H
def b8q:Gs X eV! (Xg X.K):=by
 intro J s Z H x y v u Q I rx ry h;obtain⟨a,b,ys,rfl,rfl,ha,hb,q⟩:=h;cases rx;cases ry;obtain⟨its,r1,p1,_⟩:=I.tuple ha;obtain⟨gu,r2,p2,_⟩:=I.tuple hb;obtain⟨⟨cls,dd,data,sl⟩,ho,hc,n,hd⟩:=id p1;obtain⟨⟨UA,lh,data2,jf⟩,ii,jg,n2,jh⟩:=id p2;simp only at hc hd jg jh;subst hc hd jg jh;have e0:its=[]:=r1.nil_iff.mpr rfl;exact concat_meets i7_ i8! noFill_tuple_add seq_tuple_add QF PZ (PU _ _)
  (tuple_addW0 a b its.toArray gu.toArray n n2 dd lh sl jf (by simp[e0])) ⟨ho,ii,⟨.ref b,H,I,rfl,q⟩⟩
abbrev big:Nat:=100000
def cS{n:Nat}(h:n<=big):n<=sizeLine:=JD h wq_
def Al:D->D->Option D
 |.int i,.int j=>some (.int (i+j))
 |.str x,.str y=>if eW_+cy_<=big then some (.str (x++y))else none
 |.tup xs,.tup ys=>if k_+ac_<=big then some (.tup eD!)else none
 |.lst xs,.lst ys=>if k_+ac_<=big then some (.lst eD!)else none
 |_,_=>none
def Sw(K:xB!):R2:=λx y H Q=>Sv (λi j=>.int (i+j)) x y H Q\/((∃i j,x=.str i/\y=.str j/\i.length+j.length<=sizeLine/\Q (.str (i++j)) H)\/(Zr K x y H Q\/(Xg K x y H Q\/Zs K x y H Q)))
def aN:Gs X eV! (Sw X.K):=c7r.or (a9m.or (c3j.or (b8q.or c3k)))
def bF{K:xB!}:Ip K (Sw K) Al:=by
 show"!/";unfold Al at e;show"!6"
 .show"!^";exact .inl ⟨_,_,rfl,rfl,do!⟩
 .cases cG rx;cases cG ry;show"!6"
  .show"!F";exact .inr (.inl ⟨_,_,rfl,rfl,cS hl,wr!⟩)
  .cases e
 .show"!S";obtain⟨b,ws,rfl,qb,rb⟩:=bT ry;show"!6"
  .show"!F";have l1:=aJ ra;have l2:=aJ rb;by_cases hv:vs=[]
   .subst hv;refine .inr (.inr (.inr (.inl ⟨a,b,ws,rfl,rfl,jY_,of_,k _ G H aR_ ?_⟩)));have:(_:b!)=[]:=OI.mp l1;rw[this,KZ];exact Au.tup qb rb
   .refine .inr (.inr (.inl ⟨a,b,vs,ws,rfl,rfl,jY_,of_,hv,by rw[<-l1,<-l2];exact cS hl,λhw=>?_,λhw p hp=>?_⟩))
    .subst hw;have:(_:b!)=[]:=OI.mp l2;refine k _ G H aR_ ?_;rw[this,JC];exact Au.tup qa ra
    .exact k _ _ _ jZ! (fV hd! (cY ra rb))
  .cases e
 .show"##";obtain⟨b,ws,rfl,qb,rb⟩:=bU ry;show"!6"
  .show"!F";exact .inr (.inr (.inr (.inr ⟨a,b,vs,ws,rfl,rfl,sub.seq qa,sub.seq qb,by rw[<-aJ ra,<-aJ rb];exact cS hl,λp hp=>k _ _ _ jZ! (dP hd! (cY ra rb))⟩)))
  .cases e
 .cases e
def Du(c:mv_)(g:jZ_):D->D->Option D
 |.int i,.int j=>if c i j=true then some bB! else none
 |_,_=>none
def a2b{K:xB!}{C:ms_}{c:mv_}{g:jZ_}{gv:iK_}(hc:∀i j,c i j=true->C i j)(hg:ws!):Ip K (rI C gv) (Du c g):=by
 show"!/";unfold Du at e;show"!6"
 .cases bD rx;cases bD ry;show"!6"
  .rename_i h;cases e;exact⟨_,_,rfl,rfl,hc _ _ h,ws_⟩
  .cases e
 .cases e
def Cb(g:jZ_):D->D->Option D
 |.int i,.int j=>some bB!
 |_,_=>none
def uN{K:xB!}{g:jZ_}{gv:iK_}(hg:ws!):Ip K (Sv gv) (Cb g):=by
 show"!/";unfold Cb at e;show"!6"
 .show"!^";exact⟨_,_,rfl,rfl,ws_⟩
 .cases e
def Df:D->D->Option D:=Cb λi j=>.int (i - j)
def oS{K:xB!}:Ip K sq_ Df:=uN λ_ _ _=>Au.int
def Um(i j:Int):Bool:=(decide (-iL_<i)&&decide (i<2 ^ 64))||(decide (-iL_<j)&&decide (j<2 ^ 64))
def c7v{K:xB!}:Ip K mx! (Du Um λi j=>.int (i*j)):=a2b (λi j h=>by
 unfold Um at h;simp only[Bool.or_eq_true,IZ,JE]at h;exact h) λ_ _ _=>Au.int
def c7w{K:xB!}:Ip K my_ (Du oh_ λi j=>.int (i%j)):=a2b (λi j h=>by simpa using h) λ_ _ _=>Au.int
def c3q{K:xB!}:Ip K my! (Du wt! λi j=>.int (i / j)):=a2b (λi j h=>by
 simp only[IZ,JE]at h;exact h) λ_ _ _=>Au.int
def c7u{K:xB!}:Ip K mA! (Du wt_ λi j=>.int mz_):=a2b (λi j h=>by
 simp only[IZ,JE]at h;exact⟨h.1.1,h.1.2,h.2⟩) λ_ _ _=>Au.int
def d1c{K:xB!}:Ip K mB_ (Cb λi j=>.bl mB!):=uN λ_ _ _=>Au.bl
def d1e{K:xB!}:Ip K mD! (Cb λi j=>.bl mD_):=uN λ_ _ _=>Au.bl
def d1f{K:xB!}:Ip K mE! (Cb λi j=>.bl mE_):=uN λ_ _ _=>Au.bl
def Ru(x y:Str):Bool:=!decide (y.cps.toList<x.cps.toList)
def b4s:Gs X mC! (λx y H Q=>∃i j,x=.str i/\y=.str j/\Q wu! H):=by intro J s Z H x y v u Q I rx ry h;obtain⟨i,j,rfl,rfl,q⟩:=h;obtain⟨t,rfl⟩:=rx;obtain⟨t',rfl⟩:=ry;exact PySem.P.le_str (eP I q rfl)
def Cj:D->Bool
 |.non=>true
 |_=>false
def Bv:D->D->Option D
 |x,.non=>some (.bl (Cj x))
 |_,_=>none
def zE{K:xB!}{H:Hp}(r:Au K H d x):decide (x=V.non)=Cj d:=by
 cases d with
 |non=>cases eF r;rfl
 |bl b=>cases cW r;rfl
 |int b=>cases bD r;rfl
 |str b=>cases cG r;rfl
 |tup b=>obtain⟨a,vs,rfl,_⟩:=bT r;rfl
 |lst b=>obtain⟨a,vs,rfl,_⟩:=bU r;rfl
 |fn b=>cases fZ r;rfl
 |dk b=>obtain⟨a,rfl,_⟩:=c6z r;rfl
def a9t{K:xB!}:Ip K sC_ Bv:=by
 show"!/";unfold Bv at e;show"!6"
 .show"#>"
 .cases e
def Ap:D->D->Option D
 |x,.non=>some (.bl (!Cj x))
 |_,_=>none
def nJ{K:xB!}:Ip K sD_ Ap:=by
 show"!/";unfold Ap at e;show"!6"
 .show"#>"
 .cases e
def Ai:D->D->Option D
 |.tup xs,.int i=>Cw xs i
 |.lst xs,.int i=>Cw xs i
 |.str x,.int i=>if eW_<=big then(Cw x.cps.toList i).map λc=>.str ar_ else none
 |_,_=>none
def pO{K:xB!}{H:Hp}{i:Int}(r:cE!)(h:Cw ds i=some d):∃v,Cw vs i=some v/\Au K H d v:=by unfold Cw at h ⊢;obtain⟨j,B,Y⟩:=HM.mp h;obtain⟨v,h3,h4⟩:=iN r Y;exact⟨v,HM.mpr ⟨j,by rw[<-aJ r];exact B,h3⟩,h4⟩
def aL{K:xB!}:Ip K (EY K) Ai:=by
 show"!/";unfold Ai at e;show"!6"
 .show"!S";cases bD ry;obtain⟨v,B,Y⟩:=pO ra e;exact .inr (.inl ⟨a,vs,_,v,rfl,rfl,jY_,B,k v G H aR_ Y⟩)
 .show"##";cases bD ry;obtain⟨v,B,Y⟩:=pO ra e;exact .inl ⟨a,vs,_,v,rfl,rfl,sub.seq qa,B,k v G H aR_ Y⟩
 .cases cG rx;cases bD ry;show"!6"
  .rename_i hl;obtain⟨c,B,rfl⟩:=IB.mp e;exact .inr (.inr ⟨_,_,c,rfl,rfl,cS hl,B,wr!⟩)
  .cases e
 .cases e
def Di{α:Type}(xs:N_)(lo hi:a9_):List α:=(xs.drop ng_).take nh!
def a5j{K:xB!}{H:Hp}(r:cE!)(lo hi:a9_):Ao K H (Di ds lo hi) (Ut vs lo hi):=by unfold Di Ut;rw[aJ r];exact rT _ (rV _ r)
end
section
variable{X:Cx}{own:List Nat}{e a b c:Expr}{es:List Expr}{pos p2:Pos}{f fa fb fc:Ad->Option D}{fs:Ad->Option (List D)}{ft fu:Ad->Option Bool}{ol oh:Ad->Option (Option Int)}
inductive BI(K:xB!)(own:m_)(o:wv!)(Z:St)(H:Hp)(Q:um_):Prop
 |mk (G:Hp) (ρ:Ad) (i:a9_) (r:ck!) (e:o ρ=some i) (k:∀G' H',Ck G H G' H'->Q i H'):BI K own o Z H Q
def Ax:Ad->Option oi_:=λ_=>some none
def At(f:e!):Ad->Option oi_:=λρ=>(am!).bind λd=>match d with|.int i=>some (some i)|_=>none
def eV:PO X none (BI X.K own Ax):=λJ s Z H Q I ⟨G,ρ,i,er,e,k⟩=>by
 cases e;exact c2z J s Z H Q I (k G H g7_)
def eC(h:dm_):PO X iw_ (BI X.K own (At f)):=λJ s Z H Q I ⟨G,ρ,i,er,e',k⟩=>by
 obtain⟨d,e1,e2⟩:=HM.mp e';refine c2y h.ok J s Z H Q I ⟨G,ρ,d,er,e1,λv G' H' s' r'=>?_⟩;cases d<;>first
  |cases e2
  |skip
 cases bD r';exact⟨_,rfl,n4!⟩
def Bl:D->Option Int->Option Int->Option D
 |.tup xs,lo,hi=>if HT.sIx xs.length 0 lo=0/\HT.sIx xs.length xs.length hi=k_ then none else some (.tup (Di xs lo hi))
 |.lst xs,lo,hi=>some (.lst (Di xs lo hi))
 |_,_,_=>none
def Eo(f:e!)(ol oh:wv!):Ad->Option D:=λρ=>(am!).bind λd=>(ol ρ).bind λl=>(oh ρ).bind λh=>Bl d l h
def dX{lo hi:Option Expr}(ha:Z!)(hl:PO X lo (BI X.K own ol))(hh:PO X hi (BI X.K own oh)):DE X own (.Subscript a ng! pos) (Eo fa ol oh):=
 eW (b8d (Zw.or c6w c2h) ha.ok hl hh) λZ G H Q ρ d er e k=>by
  show"!;";obtain⟨l,e2,e⟩:=HM.mp e;obtain⟨h,e3,e⟩:=HM.mp e;refine⟨G,ρ,x,er,e1,λv G1 H1 s1 r1=>⟨G1,ρ,l,dm!,e2,λG2 H2 s2=>⟨G2,ρ,h,er.grow dn_,e3,λG3 H3 s3=>?_⟩⟩⟩;have r3:Au X.K G3 x v:=(g8_).mono s3.g;have s4:Ck G H G3 H3:=s1.trans g9!;have sub:=s4.sub;unfold Bl at e;show"!6"
  .show"!6"
   .cases e
   .rename_i hw;cases e;obtain⟨p,vs,rfl,q,rr⟩:=bT r3;refine .inl ⟨p,vs,rfl,cB sub q,?_,λp hp=>k _ _ _ ww! (fV hd! (a5j rr l h))⟩;rw[<-aJ rr];exact hw
  .cases e;obtain⟨p,vs,rfl,q,rr⟩:=bU r3;exact .inr ⟨p,vs,rfl,oj_,λp hp=>k _ _ _ ww! (dP hd! (a5j rr l h))⟩
  .cases e
def FV:D->Value
 |.non=>.type "NoneType"
 |.bl _=>.type "bool"
 |.int _=>.type "int"
 |.str _=>.type "str"
 |.tup _=>.type "tuple"
 |.lst _=>.type "list"
 |.fn _=>.none
 |.dk _=>.none
def CC(K:xB!)(T:String):List V->Hp->VK->Prop:=λxs H Q=>∃x d b,xs=[x,.ty T]/\Au K H d x/\W.kitOne K (FV d) d1_=some b/\(∀a,d≠.fn a)/\(∀a,d≠.dk a)/\Q bM_ H
def c1p{T:String}:Jn X ok! (CC X.K T):=by
 intro J s Z H xs us Q I r h;obtain⟨x,d,b,rfl,rx,e,hf,yk,q⟩:=h;obtain⟨u,w',rfl,r1,r2⟩:=a4o r;cases r2;have fin:∀tk,EP X J Z Q l4! {s with toks:=tk}:=λtk=>⟨.bl b,H,I.tok tk,rfl,q⟩;cases d with
 |non=>cases eF rx;cases r1;exact RX W.kitx_none I.kIn True.intro e fl! fin
 |bl y=>cases cW rx;cases r1;exact RX W.kitx_bool I.kIn True.intro e fl! fin
 |int y=>cases bD rx;obtain⟨t,rfl⟩:=r1;exact RX W.kitx_int I.kIn True.intro e fl! fin
 |str y=>cases cG rx;obtain⟨t,rfl⟩:=r1;exact RX W.kitx_str I.kIn True.intro e fl! fin
 |tup ys=>
  show"!S";cases r1;obtain⟨its,_,⟨o,B,Y,_⟩,_⟩:=I.tuple qa;exact RX W.kitx_tuple I.kIn ok_ e fl! fin
 |lst ys=>
  show"##";cases r1;obtain⟨its,_,pl,_⟩:=I.list qa;obtain⟨o,n,B,Y,_⟩:=pl;exact RX W.kitx_list I.kIn ok_ e fl! fin
 |fn a=>exact absurd rfl (hf a)
 |dk a=>exact absurd rfl (yk a)
def Fq(T:String):D->Option Bool
 |.non=>some (T=="NoneType")
 |.bl _=>some (T=="bool"||T=="int")
 |.int _=>some (T=="int")
 |.str _=>some (T=="str")
 |.tup _=>some (T=="tuple")
 |.lst _=>some (T=="list")
 |.fn _=>none
 |.dk _=>none
structure Yd(K:xB!)(T:String):Prop where
 ok:∀d b,Fq T d=some b->W.kitOne K (FV d) d1_=some b
def a2w:W.kitOne [] j0! bW!=some ("int"=="NoneType"):=by decide+kernel
def a6n:W.kitOne [] bW_ bW!=some ("int"=="bool"||"int"=="int"):=by decide+kernel
def a3a:W.kitOne [] bW! bW!=some ("int"=="int"):=by decide+kernel
def a2u:W.kitOne [] bX! bW!=some ("int"=="str"):=by decide+kernel
def a2s:W.kitOne [] bX_ bW!=some ("int"=="tuple"):=by decide+kernel
def a2y:W.kitOne [] d3! bW!=some ("int"=="list"):=by decide+kernel
def b2x{K:xB!}:Yd K "int":=⟨λd b h=>match d,b,h with
 |.non,b,h=>by cases h;exact a2w
 |.bl _,b,h=>by cases h;exact a6n
 |.int _,b,h=>by cases h;exact a3a
 |.str _,b,h=>by cases h;exact a2u
 |.tup _,b,h=>by cases h;exact a2s
 |.lst _,b,h=>by cases h;exact a2y
 |.fn _,b,h=>by cases h
 |.dk _,b,h=>by cases h⟩
def yO:W.kitOne [] j0! bW_=some ("bool"=="NoneType"):=by decide+kernel
def a3b:W.kitOne [] bW_ bW_=some ("bool"=="bool"||"bool"=="int"):=by decide+kernel
def yQ:W.kitOne [] bW! bW_=some ("bool"=="int"):=by decide+kernel
def yN:W.kitOne [] bX! bW_=some ("bool"=="str"):=by decide+kernel
def yM:W.kitOne [] bX_ bW_=some ("bool"=="tuple"):=by decide+kernel
def yP:W.kitOne [] d3! bW_=some ("bool"=="list"):=by decide+kernel
def a6z{K:xB!}:Yd K "bool":=⟨λd b h=>match d,b,h with
 |.non,b,h=>by cases h;exact yO
 |.bl _,b,h=>by cases h;exact a3b
 |.int _,b,h=>by cases h;exact yQ
 |.str _,b,h=>by cases h;exact yN
 |.tup _,b,h=>by cases h;exact yM
 |.lst _,b,h=>by cases h;exact yP
 |.fn _,b,h=>by cases h
 |.dk _,b,h=>by cases h⟩
def a2v:W.kitOne [] j0! bX!=some ("str"=="NoneType"):=by decide+kernel
def a6m:W.kitOne [] bW_ bX!=some ("str"=="bool"||"str"=="int"):=by decide+kernel
def a2z:W.kitOne [] bW! bX!=some ("str"=="int"):=by decide+kernel
def a2t:W.kitOne [] bX! bX!=some ("str"=="str"):=by decide+kernel
def a2r:W.kitOne [] bX_ bX!=some ("str"=="tuple"):=by decide+kernel
def a2x:W.kitOne [] d3! bX!=some ("str"=="list"):=by decide+kernel
def a3n{K:xB!}:Yd K "str":=⟨λd b h=>match d,b,h with
 |.non,b,h=>by cases h;exact a2v
 |.bl _,b,h=>by cases h;exact a6m
 |.int _,b,h=>by cases h;exact a2z
 |.str _,b,h=>by cases h;exact a2t
 |.tup _,b,h=>by cases h;exact a2r
 |.lst _,b,h=>by cases h;exact a2x
 |.fn _,b,h=>by cases h
 |.dk _,b,h=>by cases h⟩
def wV:W.kitOne [] j0! bX_=some ("tuple"=="NoneType"):=by decide+kernel
def yR:W.kitOne [] bW_ bX_=some ("tuple"=="bool"||"tuple"=="int"):=by decide+kernel
def wX:W.kitOne [] bW! bX_=some ("tuple"=="int"):=by decide+kernel
def wU:W.kitOne [] bX! bX_=some ("tuple"=="str"):=by decide+kernel
def wS:W.kitOne [] bX_ bX_=some ("tuple"=="tuple"):=by decide+kernel
def wW:W.kitOne [] d3! bX_=some ("tuple"=="list"):=by decide+kernel
def nO{K:xB!}:Yd K "tuple":=⟨λd b h=>match d,b,h with
 |.non,b,h=>by cases h;exact wV
 |.bl _,b,h=>by cases h;exact yR
 |.int _,b,h=>by cases h;exact wX
 |.str _,b,h=>by cases h;exact wU
 |.tup _,b,h=>by cases h;exact wS
 |.lst _,b,h=>by cases h;exact wW
 |.fn _,b,h=>by cases h
 |.dk _,b,h=>by cases h⟩
def Ee(T:String)(f:e!):Ad->Option D:=λρ=>(am!).bind λd=>(Fq T d).map D.bl
def iX{T:String}{x:Str}(ht:Yd X.K T)(hg:Gl X "isinstance")(hm:X.mg "isinstance"=none)(YQ:X!)(ym:c2!)(hv:bootBuiltins "isinstance"=some ok!)(YR:m6!)(ha:Z!)
  (j1:c2_:=by decide)(jh:H!:=by decide)
  (he:starEach [a,cH!] X.env=dP_::starEach [cH!] X.env:=by rfl)(v9:starEach [cH!] X.env=(false,eval do_ X.env)::starEach [] X.env:=by rfl)
  (az:(backTo pos (starEach [cH!] X.env)).any b_=false:=by rfl):DE X own (.Call (.Name "isinstance" p) [a,cH!] [] pos) (Ee T fa):=
 eW (vV (r:=CC X.K T) c1p hg hm hv (dY ha.ok (dY (c3g (v:=V.ty T) YQ ym YR rfl j1 jh) gA v9) he) c_ c_ he az) λZ G H Q ρ d er e k=>by
  show"!;";obtain⟨b,e2,rfl⟩:=IB.mp e;exact⟨G,ρ,x,er,e1,λv G1 H1 s1 r1=>⟨v,x,b,rfl,r1.mono s1.sub,ht.ok x b e2,wx_,wx_,wh!⟩⟩
def eX{K:xB!}{H:Hp}(h:Ao K H [d] vs):∃v,vs=[v]/\Au K H d v:=by obtain⟨v,r,rfl,B,Y⟩:=bN h;cases cM Y;exact⟨v,rfl,B⟩
def Bf:List D->Option D
 |[.tup xs]=>some (.int k_)
 |[.lst xs]=>some (.int k_)
 |[.str x]=>if eW_<=big then some (.int eW_)else none
 |_=>none
def dN{K:xB!}:So K wy! Bf:=by
 show"!K";unfold Bf at e;show"!6"
 .show"!D";obtain⟨a,ws,rfl,q,rr⟩:=bT rv;cases e;exact⟨_,_,rfl,.inr ⟨ws,cB sub q,aJ rr⟩,do!⟩
 .show"!D";obtain⟨a,ws,rfl,q,rr⟩:=bU rv;cases e;exact⟨_,_,rfl,.inl ⟨ws,oj_,aJ rr⟩,do!⟩
 .show"!D";cases cG rv;show"!6"
  .show"!F";exact⟨_,_,rfl,⟨cS hl,rfl⟩,do!⟩
  .cases e
 .cases e
def Gb:List D->Option D
 |[.int i]=>some (.int iP_)
 |_=>none
def c9l{K:xB!}:So K sR_ Gb:=by
 show"!K";unfold Gb at e;show"!6"
 .show"!D";cases bD rv;cases e;exact⟨_,rfl,do!⟩
 .cases e
def Za:List D->Option D
 |[.str x]=>if eW_=1 then some sV! else none
 |_=>none
def c9j{K:xB!}:So K sV_ Za:=by
 show"!K";unfold Za at e;show"!6"
 .show"!D";cases cG rv;show"!6"
  .show"!F";exact⟨_,rfl,hl,do!⟩
  .cases e
 .cases e
def vB:∀{bs:j1!} {us:i!},Bc (bs.map V.bl) us->us=bs.map Value.bool
 |[],_,.nil=>rfl
 |b::bs,_,.cons r t=>by cases r;rw[vB t];rfl
def CG(K:xB!):List V->Hp->VK->Prop:=λxs H Q=>∃(p:xz!) (bs:j1!),xs=gM_/\Fn K H p (bs.map V.bl)/\Q (.bl om_) H
def b6a:∀(bs:j1!),((List.range bs.length).all λi=>(bs[i]?).getD true)=bs.all id:=λbs=>by
 rw[LQ,LG,LG];show"!H"
 .intro h x O;obtain⟨i,hi,rfl⟩:=List.mem_iff_getElem.mp O;have:=h i (NY.mpr hi);simpa[hi]using this
 .intro h i hi;have c8:=NY.mp hi;simpa[c8]using h bs[i] (JW c8)
def xU(hc:a6_):Jn X wz_ (CG X.K):=by
 intro J s Z H xs us Q I r h;obtain⟨p,bs,rfl,hq,q⟩:=h;obtain⟨u,rfl,r1⟩:=vC r;cases r1;obtain⟨its,rv,pl,hz⟩:=I.list hq;have e:=vB rv;subst e;have hl:=pl.isList;have ai:p<q_:=by obtain⟨_,e,_⟩:=hl;exact IY e
 refine call_all_walk (wpAny_pyIter_list hl ?_);refine⟨q_,[q_,p],[q_],(j1_).toArray.size,_,_,λi=>(bs[i]?).getD true,rfl,Walks.list (A:=X.A.in1) bz_ _ p (JK ai) (j1_).toArray,
  ⟨eR!,hl.push _⟩,λi v s' Q' E' hP hQ=>?_,λh' tk hk=>?_⟩
 .have UQ:j1_[i]?=some v:=by simpa using hP
  rw[JG]at UQ;obtain⟨b,hb,rfl⟩:=IB.mp UQ;simp only[hb,Option.getD_some]at hQ;exact JQ hQ
 .have e:((List.range (j1_).toArray.size).all λi=>(bs[i]?).getD true)=bs.all id:=by
   rw[HX,IF];exact b6a bs
  rw[e];exact⟨.bl _,H,I.kept (t':=tk) λb x ex=>hk b x (λhm=>by rw[IG.mp hm]at ex;exact NO _ (IY ex)) (HS _ ex),rfl,q⟩
def Nh:List D->Option (List Bool)
 |[]=>some []
 |.bl b::r=>(Nh r).map (b::·)
 |_=>none
def Rk:List D->Option D
 |[.lst xs]=>(Nh xs).map λbs=>.bl om_
 |_=>none
def zF{K:xB!}{H:Hp}:∀{ds:b!} {vs:l_} {bs:j1!},Ao K H ds vs->Nh ds=some bs->vs=bs.map V.bl
 |[],vs,bs,r,e=>by cases cM r;cases e;rfl
 |d::ds,vs,bs,r,e=>by
  obtain⟨v,t,rfl,r1,r2⟩:=bN r;cases d<;>first|cases e|skip
  obtain⟨bs',e1,rfl⟩:=IB.mp e;cases cW r1;rw[zF r2 e1];rfl
def b0w{K:xB!}:So K (CG K) Rk:=by
 show"!K";unfold Rk at e;show"!6"
 .show"!D";obtain⟨a,ws,rfl,q,rr⟩:=bU rv;obtain⟨bs,e1,rfl⟩:=IB.mp e;have:=zF rr e1;subst this;exact⟨a,bs,rfl,oj_,ek_⟩
 .cases e
end
def Zi(K:xB!)(ac:It)(ds:b!)(G1:Hp):Prop:=∀(i:Nat) (G' H':Hp),Bj G1 G'->Bj G' H'->
 wA!/\wA_
inductive FY(K:xB!)(own:m_)(fi:as_)(Z:St)(H:Hp)(R:gj_):Prop
 |mk (G:Hp) (ρ:Ad) (ds:b!) (o:ck!) (e:fi ρ=some ds) (k:∀ac G1 H1,Ck G H G1 H1->Zi K ac ds G1->R ac H1):FY K own fi Z H R
structure DI(X:Cx)(own:m_)(tg iter:Expr)(fi:as_):Prop where
 ok:PI X tg iter (FY X.K own fi)
section
variable{X:Cx}{own:List Nat}{e a b c tg:Expr}{es:List Expr}{pos p2:Pos}{f fa fb fc:Ad->Option D}{fs fi:Ad->Option (List D)}{ft fu:Ad->Option Bool}
def a7q{wi:TI}(h:PI X tg e wi)(hw:∀Z G H R ρ ds,OR X.K own G H Z ρ->fi ρ=some ds->(∀ac G1 H1,Ck G H G1 H1->Zi X.K ac ds G1->R ac H1)->wi Z H R):DI X own tg e fi:=⟨λJ s Z H R I ⟨G,ρ,ds,er,e,k⟩=>h J s Z H R I (hw Z G H R ρ ds er e k)⟩
def Ey(f:e!):Ad->Option aQ_:=λρ=>(am!).bind λd=>match d with|.lst xs=>some xs|_=>none
def FE(f:e!):Ad->Option aQ_:=λρ=>(am!).bind λd=>match d with|.tup xs=>some xs|_=>none
def a6y{K:xB!}{G1:Hp}{ad:xz!}(q:Fn K G1 ad vs)(r:Ao K G1 ds vs):Zi K (FQ K ad) ds G1:=by intro i G' H' s1 s2;have q':Fn K H' ad vs:=s2.seq (s1.seq q);refine⟨el!,λhi=>⟨vs,q',by rw[<-aJ r,hi];exact IQ _⟩⟩;obtain⟨v,B,Y⟩:=iN r hd;refine⟨⟨vs,v,q',B⟩,hf_⟩;obtain⟨e1,e2⟩:=hy;subst e1;have:=e2 vs q';rw[B]at this;cases this;exact⟨G',j2!,Y.mono s1⟩
def gJ(h:Z!):DI X own tg a (Ey fa):=a7q (b2c h.ok) λZ G H R ρ ds er e k=>by
 obtain⟨d,e1,e2⟩:=HM.mp e;cases d<;>first|cases e2|skip
 refine fn!;obtain⟨p,vs,rfl,q,rr⟩:=bU r1;exact⟨p,rfl,⟨vs,s1.sub.seq q⟩,k _ G1 H1 s1 (a6y q rr)⟩
def Dp(n:Nat):List D:=(oo_).map λi=>.int (i:Nat)
def Em(f:e!):Ad->Option aQ_:=λρ=>(am!).bind λd=>match d with|.int j=>if -1000<=j/\j<=100000 then some (Dp j.toNat)else none|_=>none
def b5n{K:xB!}{G1:Hp}{n:Nat}:Zi K (CY 0 n) (Dp n) G1:=by intro i G' H' s1 s2;unfold Dp;refine wC!;rw[JG]at hd;obtain⟨j,hj,rfl⟩:=IB.mp hd;obtain⟨hl,he⟩:=IJ.mp hj;rw[PK]at he;subst he;rw[MM]at hl;refine⟨hl,hf_⟩;obtain⟨e1,e2⟩:=hy;subst e1 e2;refine⟨G',j2!,?_⟩;rw[Int.zero_add];exact Au.int
def fK{pos:Pos}(hg:iF_)(hm:iG!)(h:Z!)(hs:r8_:=by rfl)(bp:hg!:=by rfl):
  DI X own tg r9_ (Em fa):=a7q (b4o hg hm (dY h.ok gA bp) hs) λZ G H R ρ ds er e k=>by
 obtain⟨d,e1,e2⟩:=HM.mp e;cases d<;>first|cases e2|skip
 rename_i j;have e3:(if -1000<=j/\j<=100000 then some (Dp j.toNat)else none)=some ds:=e2;split at e3
 .rename_i hj;cases e3;refine fn!;cases bD r1;exact⟨j,rfl,t_,t_,k _ G1 H1 s1 b5n⟩
 .cases e3
def Ej(bnd:an!)(ft:ad!)(fe:e!)(ρ:Ad):List D->Option aQ_
 |[]=>some []
 |d::ds=>(j2_).bind λah=>(ft ah).bind λb=>if b then(fe ah).bind λy=>(Ej bnd ft fe ρ ds).map (y::·)else Ej bnd ft fe ρ ds
def GD(K:xB!)(g:TG)(bnd:an!):Prop:=∀{x:V} {d:D} {Z:St} {G H:Hp} {ρ ah:Ad} {Q:ix_},OR K [] G H Z ρ->Au K G d x->bnd d ρ=some ah->(∀dr,OR K [] G H dr ah->Le ρ ah->Q dr H)->g x Z H Q
def Bm(i:Nat):D->Ad->Option Ad:=λd ρ=>match ρ[i]? with|some none=>some ck_|_=>none
def cX{K:xB!}(i:Nat):GD K eO! (Bm i):=by
 intro x d Z G H ρ ah Q er r e k;unfold Bm at e;show"!6"
 .rename_i h;cases e;exact k _ (er.set d_ r) ((Le.refl ρ).set h)
 .cases e
def Rj(i j:Nat):D->Ad->Option Ad:=λd ρ=>match d with
 |.tup [x,y]=>(Bm i x ρ).bind λah=>Bm j y ah
 |_=>none
def Le.trans{ρ ah bg:Ad}(a:Le ρ ah)(b:Le ah bg):Le ρ bg:=⟨a.1.trans b.1,λi d h=>b.2 i d (a.2 i d h)⟩
def c4p{K:xB!}(i j:Nat):GD K wD! (Rj i j):=by
 intro x d Z G H ρ ah Q er r e k;unfold Rj at e;show"!6"
 .obtain⟨bg,e1,e2⟩:=HM.mp e;show"!X";show"!4";refine⟨p,[v1,v2],rfl,cB er.sub q,rfl,v1,[v2],rfl,?_⟩;refine cX i er r1 e1 λdr m9 l1=>⟨v2,[],rfl,?_⟩;exact cX j m9 r2 e2 λcz cf l2=>⟨rfl,k cz cf (l1.trans l2)⟩
 .cases e
def Fa(nl:Nat)(ix:m_)(fi:as_)(bnd:an!)(ft:ad!)(fe:e!):Ad->Option D:=λρ=>(fi ρ).bind λds=>if f_<=big then(Ej bnd ft fe n0! ds).map D.lst else none
def c9i{K:xB!}{ac:It}{ds:b!}{G1 H1:Hp}{g:TG}{bnd:an!}{ft:ad!}{fe:e!}{j4:Ad}{sf:St}{Fin:cZ!}
  (hb:f_<=big)(f8:Zi K ac ds G1)(hg:GD K g bnd)(er:OR K [] G1 H1 sf j4)(e:Ej bnd ft fe j4 ds=some jj)(k:∀ys G' H',Ck G1 H1 G' H'->Ao K G' jj ys->Fin ys H'):
  Wj ac g (AA K [] ft) (tD K [] fe) Fin sf H1:=by
 refine⟨λi m ys σ H'=>i<=f_/\m=f_ - i/\∃G' ws r,Ck G1 H1 G' H'/\OR K [] G' H' σ j4/\Ao K G' ws ys/\m9!<=i/\Ej bnd ft fe j4 (ds.drop i)=some r/\ws++r=jj,
  ⟨f_,JU _,rfl,G1,[],jj,Ck.refl er.sub,er,Ao.nil,JU _,e,rfl⟩,?_⟩
 rintro i m ys σ H' ⟨hi,rfl,G',ws,r,x,cj,ak,hw,cf,et⟩;refine wE_;obtain⟨ng,nh⟩:=f8 i G' H' x.g cj.sub;by_cases ai:i<f_
 .right;have hd:ds[i]?=some ds[i]:=by simp[ai]
  have yn:ds.drop i=ds[i]::ds.drop aX_:=LC ai;rw[yn]at cf;unfold Ej at cf;obtain⟨ah,e1,cf⟩:=HM.mp cf;obtain⟨b,e2,cf⟩:=HM.mp cf;obtain⟨go,yl⟩:=ng _ hd;refine⟨go,j3_⟩;obtain⟨G2,x2,r2⟩:=yl v H2 hy;refine hg (cj.grow x2) r2 e1 λdr m9 sj=>⟨G2,ah,b,m9,e2,λG3 H3 x3=>?_⟩;have j5:=m9.grow x3;have li:Ck G1 H1 G3 H3:=x.trans (x2.trans x3);cases b with
  |true=>
   obtain⟨y,e3,cf⟩:=HM.mp cf;obtain⟨zs,e4,rfl⟩:=IB.mp cf;refine mM ⟨G3,ah,y,j5,e3,λu G4 H4 x4 r4=>⟨_,?_,ai,rfl,G4,ws++[y],zs,li.trans x4,(j5.grow x4).le sj,?_,?_,e4,?_⟩⟩
   .omega
   .exact cY wF! (Ao.cons r4 Ao.nil)
   .rw[IL,KU];omega
   .rw[JL];exact et
  |false=>
   refine mN ⟨_,?_,ai,rfl,G3,ws,r,li,j5.le sj,(oq!).mono x3.g,t_,cf,et⟩;omega
 .left;have io:i=f_:=by omega
  refine⟨nh io,k ys G' H' x ?_⟩;rw[io,QE]at cf;cases cf;rw[JC]at et;subst et;exact ak
def lA{scope:Scope}{NL:p!}{ix:m_}{g:TG}{bnd:an!}{fe:e!}
  (cg:dh_)(ce:di!)(j3:∀y∈cg_,y.2=.local->scope.names.lookup y.1=some .local)
  (ie:g1!)(cap:dh!)(nj:jO_)(calm:a6_)(ax:DI X own tg iter fi)
  (hg:g1_)(nu:oq_)(hi:∀cl C al bc fp,Py ch_ c7 wF_)(he:∀cl C al bc fp,DE ch_ [] dw fe)
  (hs:c6_:=by intro _;rfl):
  DE X own gZ! (Fa NL.length ix fi bnd ft fe):=
 eW wG_ λZ G H Q ρ d er e k=>by
  show"!G"
  .rename_i hb;obtain⟨jj,e2,rfl⟩:=IB.mp e;refine⟨G,ρ,ds,er,e1,wH!⟩;refine c9i hb f8 nu ((er.grow x1).cap NL.length ix nj) e2 λys G' H' x r p hp=>?_;exact k _ _ _ (x1.trans (x.trans hg_)) (dP or! r)
  .cases e
def a5s:Py X [] (AA X.K [] λ_=>some true):=λJ s Z H Q I ⟨G,ρ,b,er,e,k⟩=>by
 cases e;exact a5r J s Z H Q I (k G H g7_)
def c5z(h:DT X [] c ft):Py X [c] wF_:=a5q h.ok
end
inductive Fl where
 |nx (ρ:Ad)|rt (d:D)
structure SR(K:xB!)(own:m_)(G0 F0 G H:Hp)(Z:St)(ρ:Ad):Prop where
 or:OR K own G H Z ρ
 ext:Ck G0 F0 G H
 fr:∀i∈own,∀p,Z[i]?=some cj_->F0 p=none
inductive DJ(K:xB!)(G0 F0:Hp)(own hx:m_)(f:aS!)(E:Vs)(Z:St)(H:Hp):Prop
 |mk (G:Hp) (ρ:Ad) (r:Fl) (o:fn_) (e:f ρ=some r) (k:match(generalizing:=false) r with
  |.nx ρ'=>∀G' σ H',SR K hx G0 F0 G' H' σ ρ'->E.nx σ H'
  |.rt d=>∀v G' H',Ck G0 F0 G' H'->Au K G' d v->E.rt v H'):DJ K G0 F0 own hx f E Z H
structure DS(X:Cx)(own hx:m_)(st:Stmt)(f:aS!):Prop where
 ok:∀G0 F0,PS X st wH_
structure Yf(X:Cx)(own hx:m_)(st:b6!)(f:aS!):Prop where
 ok:∀G0 F0,Uv X st wH_
section
variable{X:Cx}{own bh jk:List Nat}{st:Stmt}{rest body:List Stmt}{e a b c tg:Expr}{es:List Expr}{pos p2:Pos}{f fa fb fc:Ad->Option D}{fs fi:Ad->Option (List D)}{ft fu:Ad->Option Bool}{q1 q2 q3:Ad->Option Fl}
def c6k{t:TS}(h:iv_)(hw:∀G0 F0 E Z G H ρ r,SR X.K own G0 F0 G H Z ρ->q1 ρ=some r->(match r with
  |.nx ρ'=>∀G' σ H',SR X.K bh G0 F0 G' H' σ ρ'->E.nx σ H'
  |.rt d=>∀v G' H',Ck G0 F0 G' H'->Au X.K G' d v->E.rt v H')->t E Z H):DS X own bh st q1:=⟨λG0 F0 J s Z H E I ⟨G,ρ,r,er,e,k⟩=>h J s Z H E I (hw G0 F0 E Z G H ρ r er e k)⟩
def SR.grow{K:xB!}{G0 F0 G H G' H':Hp}{Z:St}{ρ:Ad}(s:fn_)(x:jO!):SR K own G0 F0 G' H' Z ρ:=⟨s.or.grow x,s.ext.trans x,s.fr⟩
def SR.set{K:xB!}{G0 F0 G H:Hp}{Z:St}{ρ:Ad}{i:Nat}(s:fn_)(hi:bp!)(r:cF_):SR K own G0 F0 G H eH_ ck_:=
 ⟨s.or.set hi r,s.ext,λj hj p e=>by
  have ne:i≠j:=λz=>hi (z▸hj);rw[JH ne]at e;exact s.fr j hj p e⟩
def Ct:Ad->Option Fl:=λρ=>some aM_
nonrec def sSeq(q1 q2:aS!):Ad->Option Fl:=λρ=>(q1 ρ).bind λr=>match r with|.nx ρ'=>q2 ρ'|.rt d=>some bq!
def eA:Yf X own own [] Ct:=⟨λG0 F0 J s Z H E I ⟨G,ρ,r,er,e,k⟩=>by
 cases e;exact b1y J s Z H E I (k G Z H er)⟩
def bB(B:wI_)(Y:Yf X bh jk rest q2):Yf X own jk mb! (sSeq q1 q2):=⟨λG0 F0 J s Z H E I ⟨G,ρ,r,er,e,k⟩=>by
 refine a5p or_ (Y.ok G0 F0) J s Z H E I ?_;obtain⟨r1,e1,e2⟩:=HM.mp e;refine⟨G,ρ,r1,er,e1,?_⟩;cases r1 with
 |nx ρ'=>exact λG' σ H' cj=>⟨G',ρ',r,cj,e2,k⟩
 |rt d=>
  cases e2;exact k⟩
def aZ(B:wI_):Yf X own bh [st] q1:=⟨λG0 F0=>b1x or_⟩
def SR.free{K:xB!}{G0 F0 G H:Hp}{Z:St}{ρ:Ad}(s:fn_):SR K [] G0 F0 fi_ H Z ρ:=by
 have o:=s.or.full;refine⟨o,⟨jN_,s.ext.h,o.sub,bo!⟩,as!⟩
 .have z:=s.ext.g b u e;unfold Lc;split
  .exact s.or.sub b u z
  .exact z
 .unfold Lc at h;split at h
  .rename_i hb;obtain⟨i,hi,q⟩:=nM hb;exact .inr (s.fr i hi b q)
  .exact s.ext.new b h
def a7p(h:Yf X [] jk rest q1):Yf X own jk rest q1:=⟨λG0 F0 J s Z H E I ⟨G,ρ,r,er,e,k⟩=>h.ok G0 F0 J s Z H E I ⟨_,ρ,r,er.free,e,k⟩⟩
def Bk(f:e!):Ad->Option Fl:=λρ=>(am!).map Fl.rt
def bS(h:dm_):DS X own bh mb_ (Bk f):=c6k (b7r h.ok) λG0 F0 E Z G H ρ r er e' k=>by
 obtain⟨d,e1,rfl⟩:=IB.mp e';exact⟨G,ρ,d,er.or,e1,λv G' H' x r=>k v G' H' (er.ext.trans x) r⟩
def Cn(i:Nat)(f:e!):Ad->Option Fl:=λρ=>(am!).map λd=>.nx ck_
def fR{i:Nat}(hN:bx!)(hi:ap_)(O:bx_)(h:dm_)(bq:bp!:=by decide)(hs:wJ!:=by rfl)
  (hf:X.fn x=true\/X.env.scope.names.lookup x=some .local:=by first|exact .inl rfl|exact .inr rfl|assumption):DS X own own wJ_ (Cn i f):=
 c6k wK! λG0 F0 E Z G H ρ r er e' k=>by
  obtain⟨d,e1,rfl⟩:=IB.mp e';exact⟨G,ρ,d,er.or,e1,λv G' H' x r=>k G' _ H' ((hh!).set bq r)⟩
def Gg(ft:ad!)(q1 q2:aS!):Ad->Option Fl:=λρ=>(ha_).bind λb=>if b then q1 ρ else q2 ρ
def hX{b1 b2:b6!}(hc:DT X own c ft)(B:Yf X own bh b1 q1)(Y:Yf X own bh b2 q2):DS X own bh wK_ (Gg ft q1 q2):=⟨λG0 F0 J s Z H E I ⟨G,ρ,r,er,e',k⟩=>by
 refine c5y hc.ok or_ (Y.ok G0 F0) J s Z H E I ?_;obtain⟨x,e1,e2⟩:=HM.mp e';refine⟨G,ρ,x,er.or,e1,λG' H' x'=>?_⟩;cases x with
 |true=>exact mM wL_
 |false=>exact mN wL_⟩
def Lp(i:Nat)(fs:as_):Ad->Option Fl:=λρ=>(fk!).bind λds=>if f_<=1000 then some (.nx os!)else none
def SR.ownNew{K:xB!}{G0 F0 G H:Hp}{Z:St}{ρ:Ad}{i:Nat}(s:fn_)(hi:bp!)(hl:i<f4!)(r:j4_)(hp:cE_):
  SR K (i::own) G0 F0 G jN! (Z.set i cj_) os!:=by
 have yo:i<g5!:=by rw[s.or.len];exact hl
 have yp:Bj H jN!:=iM hp;show"#0";refine⟨⟨wN!,by rw[LO,LO,s.or.len],wN_,j6!,λj hj k hk b9 a b e1 e2=>?_⟩,⟨s.ext.g,s.ext.h.trans yp,wN!,s.ext.new⟩,λj hj a e=>?_⟩
 .have cp:i≠j:=λz=>n (by rw[z];exact HV);rw[JH cp]at q ⊢;exact s.or.at_ j d q λz=>n (HP _ z)
 .obtain z|z:=HQ.mp hj
  .subst z;exact⟨p,ds,vs,by rw[KF yo],by rw[KF hl],bV,s.or.sub.free hp,r⟩
  .have cp:i≠j:=λy=>hi (y▸z);obtain⟨a,sk,gg,B,Y,h3,h4,h5⟩:=s.or.own_ j z;exact⟨a,sk,gg,by rw[JH cp];exact B,by rw[JH cp];exact Y,by rw[bC (ne h3)];exact h3,h4,h5⟩
 .have look:∀{j:Nat} {a:xz!},j∈i::own->(Z.set i cj_)[j]?=some (some ff_)->(j=i/\a=p)\/(j≠i/\j∈own/\Z[j]?=some (some ff_)/\a≠p):=λ{j a} hj e=>by
   by_cases cp:i=j
   .subst cp;rw[KF hl]at e;cases e;exact .inl bN_
   .rw[JH cp]at e;have hm:j∈own:=(HQ.mp hj).elim wO! id;obtain⟨a',sk,gg,B,Y,h3,h4,h5⟩:=s.or.own_ j hm;rw[e]at Y;cases Y;exact .inr ⟨HY cp,hm,e,ne h3⟩
  obtain⟨z1,z2⟩|⟨z1,z2,z3,z4⟩:=look hj e1
  .obtain⟨y1,y2⟩|⟨y1,y2,y3,y4⟩:=look hk e2
   .exact absurd (z1.trans y1.symm) b9
   .rw[z2];exact HY y4
  .obtain⟨y1,y2⟩|⟨y1,y2,y3,y4⟩:=look hk e2
   .rw[y2];exact z4
   .exact s.or.dis j z2 k y2 b9 a b z3 y3
 .by_cases cp:i=j
  .subst cp;rw[KF hl]at e;cases e;exact s.ext.h.free hp
  .rw[JH cp]at e;exact s.fr j ((HQ.mp hj).elim wO! id) a e
def mS{i:Nat}{p3 p4:Pos}(hN:bx!)(hi:ap_)(O:bx_)(h:jV_)(bq:bp!:=by decide)
  (hf:X.fn x=true\/X.env.scope.names.lookup x=some .local:=by first|exact .inl rfl|exact .inr rfl|assumption)(bx:swapsWith (.List es p2) (some (.Name x p3)) p4.line X.env=pure false:=by rfl):DS X own (i::own) (.Assign [.Name x p3] (.List es p2) p4) (Lp i fs):=⟨λG0 F0 J s Z H E I ⟨G,ρ,r,er,e',k⟩=>by
  refine a9j hN hi O jX! bx hf J s Z H E I ?_;have hl:i<f4!:=by rw[I.len];exact(IJ.mp hi).1
  obtain⟨ds,e1,e2⟩:=HM.mp e';split at e2
  .rename_i hsz;cases e2;exact⟨G,ρ,ds,er.or,e1,λvs G' H' x r=>⟨by rw[<-aJ r];exact gF hsz,λp hp=>k G' _ _ ((hh!).ownNew bq hl r hp)⟩⟩
  .cases e2⟩
def SR.upd{K:xB!}{G0 F0 G H:Hp}{Z:St}{ρ:Ad}{i:Nat}(s:fn_)(hi:eg!)(hp:qS_)(r:j4_):
  SR K own G0 F0 G jN! Z os!:=by
 obtain⟨p',sk,gg,B,Y,h3,h4,h5⟩:=s.or.own_ i hi;rw[hp]at Y;cases Y;have hG:∀{b u},G b=some u->b≠p:=λe=>cJ e h4;have hF:∀{b u},F0 b=some u->b≠p:=λe=>cJ e (s.fr i hi p hp);have yo:i<g5!:=(fo!).1;refine⟨⟨wO_,by rw[LO,s.or.len],wN_,j6!,s.or.dis⟩,⟨s.ext.g,λb u e=>by rw[bC (hF e)];exact s.ext.h b u e,wO_,s.ext.new⟩,s.fr⟩
 .have cp:i≠j:=λz=>n (z▸hi);rw[JH cp]at q;exact s.or.at_ j d q n
 .by_cases cp:i=j
  .subst cp;exact⟨p,ds,vs,by rw[KF yo],hp,bV,h4,r⟩
  .obtain⟨a,YS,YT,g1,g2,g3,g4,g5⟩:=s.or.own_ j hj;have ne:a≠p:=HY (s.or.dis i hi j hj cp p a hp g2);exact⟨a,YS,YT,by rw[JH cp];exact g1,g2,by rw[bC ne];exact g3,g4,g5⟩
def Pr(i:Nat)(f:e!):Ad->Option Fl:=λρ=>(am!).bind λd=>match ρ[i]? with|some (some (.lst ds))=>if f_<big then some wP! else none|_=>none
def sQ{i:Nat}{x:Str}{ag ab:Pos}(bq:eg!:=by decide)(h:dm_)(hN:ap_:=by rfl)(hv:c0!:=by first|exact Or.inl rfl|exact Or.inr a_|exact Or.inr bc_)
  (hd:H!:=by decide)(b6:c0_:=by decide)
  (bv:j6_:=by rfl)(fh:((js!).all cd_&&(ce!).all ce_
   &&decide wP_)=true:=by rfl) (fm:dd_:=by rfl)
  (fg:attributeBase bq_ "append" X.env j7!=eval bq_ X.env:=by rfl) (fq:fo_:=by rfl) (j6:swapsWith wQ_ none pos.line X.env=pure false:=by rfl):
  DS X own own (.Expr wQ_ pos) (Pr i f):=⟨λG0 F0 J s Z H E I ⟨G,ρ,r,er,e',k⟩=>by
  refine uK (vW MQ PySem.F.slot_list_append PySem.F.type_list_append zP jR_ wR! fg fh fm bv fq) j6 J s Z H E I ?_;obtain⟨d,e1,e2⟩:=HM.mp e';obtain⟨p,ds,vs,B,Y,h3,h4,h5⟩:=er.or.own_ i bq;rw[B]at e2;simp only at e2;split at e2
  .rename_i hl;cases e2;refine⟨fp!,Y,ot_,G,ρ,d,er.or,e1,λv G' H' x r=>⟨p,vs,v,rfl,rfl,x.h _ _ h3,?_,?_⟩⟩
   .rw[<-aJ h5];exact IV hl (cS x_)
   .exact k G' Z _ ((hh!).upd bq Y (cY ou! (Ao.cons r Ao.nil)))
  .cases e2⟩
def Vf(i:Nat)(fx fv:e!):Ad->Option Fl:=λρ=>(fv ρ).bind λd=>(fx ρ).bind λx=>match x,ρ[i]? with|.int j,some (some (.lst ds))=>(ou_).map λk=>.nx wR_|_,_=>none
def c0u{i:Nat}{x:Str}{fx fv:e!}(bq:eg!:=by decide)(O:wS!)(hv:DE X own e fv)(hN:ap_:=by rfl)(yq:c0!:=by first|exact Or.inl rfl|exact Or.inr a_|exact Or.inr bc_)
  (hd:H!:=by decide)(b6:c0_:=by decide)
  (ha:∀v,assign wS_ X.env v=(do
   let ov <-holding [v] j7!
   let iv <-holding [v,ov] (eval ix X.env)
   standAt p2
   holding eO_ md_
   release eO_ []):=by intro _;rfl)
  (hs:swapsWithSole j7_ e pos.line X.env=pure false:=by rfl) (hw:swappedStores j7_ e X.env=pure none:=by rfl)
  (B:(assignEach j7_ X.env).map C_=[assign wS_ X.env]:=by rfl):
  DS X own own (.Assign j7_ e pos) (Vf i fx fv):=⟨λG0 F0 J s Z H E I ⟨G,ρ,r,er,e',k⟩=>by
  refine b7t hv.ok (b7z wT! O.ok a4w ha) hs hw B J s Z H E I ?_;obtain⟨d,e1,e2⟩:=HM.mp e';obtain⟨z,e3,e4⟩:=HM.mp e2;obtain⟨p,ds,vs,B,Y,h3,h4,h5⟩:=er.or.own_ i bq;rw[B]at e4;cases z<;>first|cases e4|skip
  rename_i j;obtain⟨n,e5,rfl⟩:=IB.mp (show(ou_).map _=some r from e4);refine⟨G,ρ,d,er.or,e1,λv G' H' x r=>⟨fp!,Y,G',ρ,dP!,er.or.grow x,e3,wT_⟩⟩;cases bD r2;refine⟨p,vs,j,n,rfl,rfl,wU!,by rw[<-aJ h5];exact e5,?_⟩;exact k G2 Z _ (((hh!).grow x2).upd bq Y (vR (r.mono x2.g) n ((ou!).mono x2.g)))⟩
def Me(i:Nat)(fx:e!):Ad->Option D:=λρ=>(fx ρ).bind λx=>match x,ρ[i]? with|.int j,some (some (.lst ds))=>Cw ds j|_,_=>none
def sR{i:Nat}{x:Str}{fx:e!}(bq:eg!:=by decide)(O:wS!)(hs:Qb ix)(hN:ap_:=by rfl)(yq:c0!:=by first|exact Or.inl rfl|exact Or.inr a_|exact Or.inr bc_)
  (hd:H!:=by decide)(b6:c0_:=by decide):DE X own (.Subscript bq_ ix pos) (Me i fx):=
 eW (b8j b2v wT! O.ok hs) λZ G H Q ρ d er e k=>by
  obtain⟨z,e3,e4⟩:=HM.mp e;obtain⟨p,ds,vs,B,Y,h3,h4,h5⟩:=er.own_ i bq;rw[B]at e4;cases z<;>first|cases e4|skip
  rename_i j;have e5:Cw ds j=some d:=e4;obtain⟨v,e6,r6⟩:=pO h5 e5;refine⟨fp!,Y,G,ρ,dP!,er,e3,wT_⟩;cases bD r2;exact⟨p,vs,j,v,rfl,rfl,Fn.of (x2.h _ _ h3),e6,k v G2 H2 x2 (r6.mono x2.g)⟩
def Re(bnd:an!)(q:aS!):List D->Ad->Option Fl
 |[],ρ=>some aM_
 |d::ds,ρ=>(j2_).bind λah=>(q ah).bind λr=>match r with|.nx bg=>Re bnd q ds bg|.rt d=>some bq!
def Rp(fi:as_)(bnd:an!)(q:aS!):Ad->Option Fl:=λρ=>(fi ρ).bind λds=>Re bnd q ds ρ
def Ri(F0 G1:Hp):Hp:=λb=>match F0 b with|some o=>some o|none=>G1 b
def SR.base{K:xB!}{G0 F0 G1 H1:Hp}{Z:St}{ρ:Ad}(s:SR K own G0 F0 G1 H1 Z ρ):SR K own G1 hj_ G1 H1 Z ρ:=by
 refine⟨s.or,⟨Bj.refl _,jN_,s.or.sub,dr_⟩,wV!⟩
 .unfold Ri at e;show"!6"
  .rename_i o ho;cases e;exact s.ext.h b _ ho
  .exact s.or.sub b u e
 .obtain⟨p',ds,vs,B,Y,h3,h4,h5⟩:=s.or.own_ i hi;rw[e]at Y;cases Y;unfold Ri;rw[s.fr i hi p e];exact h4
def xO{G0 F0 G1 H1 G' H':Hp}(x:wV_)(y:Ck G1 hj_ G' H'):Ck G0 F0 G' H':=by
 refine⟨x.g.trans y.g,λb u e=>y.h b u ?_,y.sub,bo!⟩
 .unfold Ri;rw[e]
 .obtain z|z:=y.new b h
  .exact x.new b z
  .right;unfold Ri at z;split at z
   .cases z
   .assumption
def SR.unbase{K:xB!}{G0 F0 G1 H1 G' H':Hp}{Z:St}{ρ:Ad}(x:wV_)(s:SR K own G1 hj_ G' H' Z ρ):SR K own G0 F0 G' H' Z ρ:=
 ⟨s.or,xO x s.ext,λi hi p e=>by
  have z:=s.fr i hi p e;unfold Ri at z;split at z
  .cases z
  .assumption⟩
def Bx(i:Nat):D->Ad->Option Ad:=λd ρ=>some ck_
def b0o{i:Nat}(hp:gi_)(hc:a6_)(ax:DI X own do_ iter fi)(hN:bx!)(hi:ap_)(O:bx_)(hb:Yf X own own body q1)(bq:bp!:=by decide)
  (hf:X.fn x=true\/X.env.scope.names.lookup x=some .local:=by first|exact .inl rfl|exact .inr rfl|assumption)(hs:c6_:=by intro _;rfl):
  DS X own own (.For do_ iter body [] pos) (Rp fi (Bx i) q1):=⟨λG0 F0 J s Z H E I ⟨G,ρ,r,er,e',k⟩=>by
 obtain⟨ds,e1,e2⟩:=HM.mp e';have df:Uv X body (λE Z H=>∃A h1,DJ X.K A h1 own own q1 E Z H):=λJ s Z H E I ⟨A,h1,h⟩=>hb.ok A h1 J s Z H E I h;refine b7s hp hc ax.ok (bH hN hi O hf) df hs J s Z H E I ⟨G,ρ,ds,er.or,e1,wH!⟩;have UR:Ck G0 F0 G1 H1:=er.ext.trans x1;refine⟨λn m σ H'=>n<=f_/\m=f_ - n/\∃G' ρ',SR X.K own G1 hj_ G' H' σ ρ'/\Re (Bx i) q1 nW! ρ'=some r,
  ⟨f_,JU _,rfl,G1,ρ,(er.grow x1).base,e2⟩,?_⟩
 rintro n m σ H' ⟨hn,rfl,G',ρ',cj,e3⟩;obtain⟨ng,nh⟩:=f8 n G' H' cj.ext.g cj.or.sub;by_cases ai:n<f_
 .right;have hd:ds[n]?=some ds[n]:=by simp[ai]
  have yn:ds.drop n=ds[n]::ds.drop cJ!:=LC ai;rw[yn]at e3;unfold Re at e3;obtain⟨ah,e4,e3⟩:=HM.mp e3;obtain⟨r1,e5,e3⟩:=HM.mp e3;cases e4;obtain⟨go,yl⟩:=ng _ hd;refine⟨go,λcz H2=>∃G2 bg,SR X.K own G1 hj_ G2 H2 cz bg/\Re (Bx i) q1 (ds.drop cJ!) bg=some r,λcz H2 ⟨G2,bg,B,Y⟩=>⟨f_ - cJ!,t_,ai,rfl,G2,bg,B,Y⟩,j3_⟩;obtain⟨G2,x2,r2⟩:=yl v H2 hy;refine⟨G1,Ri F0 G1,G2,_,r1,(cj.grow x2).set bq r2,e5,?_⟩;cases r1 with
  |nx bg=>exact λG3 gq H3 j5=>⟨G3,bg,j5,e3⟩
  |rt d=>
   cases e3;exact λw G3 H3 x3 r3=>k w G3 H3 (xO UR x3) r3
 .left;have io:n=f_:=by omega
  refine ow_;rw[io,QE]at e3;cases e3;exact k G' σ H' (SR.unbase UR cj)⟩
def a4t{K:xB!}{G H:Hp}{N:p!}{ds:b!}(s:M_)(r:j4_):OR K [] G H (L2.Mu N vs) hk_:=by
 have hl:=aJ r;unfold L2.Mu;refine⟨s,by simp[hl],nZ!,as!,as!⟩;by_cases hi:i<f_
 .rw[KO gF_,JG]at q;obtain⟨d',B,Y⟩:=IB.mp q;cases Y;obtain⟨v,h3,h4⟩:=iN r B;exact⟨v,by rw[KO (by simpa[<-hl]using hi),JG,h3];rfl,h4⟩
 .rw[e4_,OJ]at q;split at q<;>cases q
end
def c9b{K:xB!}{mg:y_}{st:Stmt}{N ps:p!}{k:Nat}{hx:m_}{q:aS!}{g:ai!}
  (F:wY!)(S:d6!)
  (hb:∀(af:x6!) (A:x9!) (outer:aw_) (s:xA!) (H:Hp) (E:XK),Ak k ox!->Yf (ox_).nox [] hx bT_ q)
  (hg:∀ds d,f_=T_->g ds=some d->q hk_=some bq!\/∃ρ,q hk_=some aM_/\d=.non):
  Fj P w K mg base Pz R_ hr fd ps kc!:=by
 refine wY_;obtain⟨hl,G,ds,d,sub,r,e,kk⟩:=h;refine⟨_,(wZ!).ok G H,?_⟩;have er:=a4t (N:=N) sub r;rcases hg ds d (by rw[aJ r];exact hl) e with z|⟨ρ,z,rfl⟩
 .exact⟨G,_,_,wZ_,z,λv G' H' x r=>kk v G' H' x r⟩
 .exact⟨G,_,_,wZ_,z,λG' σ H' cj=>kk _ G' H' cj.ext Au.non⟩
mutual
noncomputable def Dw:D->D->Bool
 |.non,.non=>true
 |.bl a,.bl b=>a==b
 |.bl a,.int b=>uP_==b
 |.int a,.bl b=>a==uQ!
 |.int a,.int b=>a==b
 |.str a,.str b=>a==b
 |.tup xs,.tup ys=>Io xs ys
 |.lst xs,.lst ys=>Io xs ys
 |_,_=>false
noncomputable def Io:List D->List D->Bool
 |[],[]=>true
 |x::xs,y::ys=>Dw x y&&Io xs ys
 |_,_=>false
end
mutual
noncomputable def Bh:D->Bool
 |.fn _=>false
 |.dk _=>false
 |.tup xs=>Bp xs
 |.lst xs=>Bp xs
 |_=>true
noncomputable def Bp:List D->Bool
 |[]=>true
 |d::ds=>Bh d&&Bp ds
end
section
variable{X:Cx}{J:List (Addr×Obj)}{Z:St}{H:Hp}{s:xA!}
def vD(I:d!)(h:kc_)(h':Fn X.K H a ws):False:=by obtain⟨_,_,⟨o,e,c,_⟩,_⟩:=I.tuple h;obtain⟨_,_,⟨o',n,e',c',_⟩,_⟩:=I.list h';rw[e]at e';cases e';rw[c]at c';exact absurd c' d_
mutual
theorem a1r(I:d!):∀(d d':D) (v:V),Bh d=true->Bh d'=true->Au X.K H d v->Au X.K H d' v->d=d'
 |.non,d',v,n,n',r,r'=>by
  cases eF r;cases d'<;>first
   |rfl
   |(unfold Au at r';cases r';done)
   |(obtain⟨a,vs,e,_⟩:=bT r';cases e)
   |(obtain⟨a,vs,e,_⟩:=bU r';cases e)
   |(unfold Bh at n';cases n')
 |.bl b,d',v,n,n',r,r'=>by
  cases cW r;cases d'<;>first
   |(cases cW r';rfl;done)
   |(unfold Au at r';cases r';done)
   |(obtain⟨a,vs,e,_⟩:=bT r';cases e)
   |(obtain⟨a,vs,e,_⟩:=bU r';cases e)
   |(unfold Bh at n';cases n')
 |.int b,d',v,n,n',r,r'=>by
  cases bD r;cases d'<;>first
   |(cases bD r';rfl;done)
   |(unfold Au at r';cases r';done)
   |(obtain⟨a,vs,e,_⟩:=bT r';cases e)
   |(obtain⟨a,vs,e,_⟩:=bU r';cases e)
   |(unfold Bh at n';cases n')
 |.str b,d',v,n,n',r,r'=>by
  cases cG r;cases d'<;>first
   |(cases cG r';rfl;done)
   |(unfold Au at r';cases r';done)
   |(obtain⟨a,vs,e,_⟩:=bT r';cases e)
   |(obtain⟨a,vs,e,_⟩:=bU r';cases e)
   |(unfold Bh at n';cases n')
 |.tup xs,d',v,n,n',r,r'=>by
  obtain⟨a,vs,rfl,q,rr⟩:=bT r;cases d' with
  |tup ys=>
   obtain⟨a',gg,e,q',bz⟩:=bT r';cases e;have:=I.tuple_inj q q';subst this;unfold Bh at n n';rw[w0!]
  |lst ys=>
   obtain⟨a',gg,e,q',bz⟩:=bU r';cases e;exact(vD I q q').elim
  |fn b=>unfold Bh at n';cases n'
  |dk b=>unfold Bh at n';cases n'
  |non=>cases eF r'
  |bl b=>cases cW r'
  |int b=>cases bD r'
  |str b=>cases cG r'
 |.lst xs,d',v,n,n',r,r'=>by
  obtain⟨a,vs,rfl,q,rr⟩:=bU r;cases d' with
  |lst ys=>
   obtain⟨a',gg,e,q',bz⟩:=bU r';cases e;have:=I.list_inj q q';subst this;unfold Bh at n n';rw[w0!]
  |tup ys=>
   obtain⟨a',gg,e,q',bz⟩:=bT r';cases e;exact(vD I q' q).elim
  |fn b=>unfold Bh at n';cases n'
  |dk b=>unfold Bh at n';cases n'
  |non=>cases eF r'
  |bl b=>cases cW r'
  |int b=>cases bD r'
  |str b=>cases cG r'
 |.fn a,d',v,n,n',r,r'=>by unfold Bh at n;cases n
 |.dk a,d',v,n,n',r,r'=>by unfold Bh at n;cases n
theorem vS(I:d!):∀(ds es:b!) (vs:l_),Bp ds=true->Bp es=true->Ao X.K H ds vs->Ao X.K H es vs->ds=es
 |[],es,vs,n,n',r,r'=>by
  cases cM r;cases es with
  |nil=>rfl
  |cons e es=>obtain⟨v,t,z,_⟩:=bN r';cases z
 |d::ds,es,vs,n,n',r,r'=>by
  obtain⟨v,t,rfl,r1,r2⟩:=bN r;cases es with
  |nil=>cases cM r'
  |cons e es=>
   obtain⟨v',t',z,yr,yt⟩:=bN r';cases z;unfold Bp at n n';rw[IZ]at n n';rw[a1r I d e v n.1 n'.1 r1 yr,vS I ds es t n.2 n'.2 r2 yt]
end
mutual
theorem qU:∀d:D,Bh d=true->Dw d d=true
 |.non,_=>by simp[Dw]
 |.bl b,_=>by simp[Dw]
 |.int i,_=>by simp[Dw]
 |.str s,_=>by simp[Dw]
 |.tup xs,h=>by unfold Dw;exact sM xs w0_
 |.lst xs,h=>by unfold Dw;exact sM xs w0_
 |.fn a,h=>by simp[Bh]at h
 |.dk k,h=>by simp[Bh]at h
theorem sM:∀ds:List D,Bp ds=true->Io ds ds=true
 |[],_=>by simp[Io]
 |d::ds,h=>by
  unfold Bp at h;rw[IZ]at h;unfold Io;rw[qU d h.1,sM ds h.2];rfl
end
def a5f(I:d!)(d d':D)(v:V)(n:cJ_)(n':fq_)(r:en!)(r':Au X.K H d' v):Dw d d'=true:=by rw[<-a1r I d d' v n n' r r'];exact qU d n
def jX(A:x9!):A.in1.units=A.units+1:=rfl
def mV:∀(xs ys:b!),k_=ac_->((List.range k_).all λj=>Dw (xs.getD j .non) (ys.getD j .non))=Io xs ys
 |[],[],_=>rfl
 |x::xs,y::ys,h=>by
  have ih:=mV xs ys kd!;unfold Io;rw[IH,List.range_succ_eq_map,NR,<-ih,List.all_map];rfl
 |[],_::_,h=>by simp at h
 |_::_,[],h=>by simp at h
def mQ:∀(xs ys:b!),k_≠ac_->Io xs ys=false
 |[],[],h=>absurd rfl h
 |x::xs,y::ys,h=>by
  unfold Io;rw[mQ xs ys kd!,QR]
 |[],_::_,_=>rfl
 |_::_,[],_=>rfl
def qM{ds es:b!}{us us':i!}(rd:hl!)(re:hl_)(rv:eK!)(ak:Bc ws us')
  (h:∀(j:Nat) u u',us[j]?=some u->us'[j]?=some u'->SeqAt.EqAt A s u u' kd_):
  ∀j (B:j<ke_) (Y:j<oA!),SeqAt.EqAt A s cD_[j] oA_[j] kd_:=λj B Y=>by
 have l1:j<ao!:=by simpa using B
 have l2:j<us'.length:=by simpa using Y
 exact h j _ _ (by simp[l1]) (by simp[l2])
def zG{ds es:b!}{A:x9!}(I:d!)(qa:kc_)(qb:Gc X.K H b ws)(rd:hl!)(re:hl_)(hu:at!)
  (h:kf!):SeqAt.RcAt A s ae! d2! (Io ds es):=by
 obtain⟨us,rv,p1,_⟩:=I.tuple qa;obtain⟨us',ak,p2,_⟩:=I.tuple qb;have B:=aJ rd;have Y:=aJ re;have h3:=gl_;have h4:=kg!;have z:=SeqAt.RcAt.tuples (A:=A) (e:=kf_) p1 p2 hu kg_;have e:w2_=Io ds es:=by
  show"#2"
  .rw[hl,Nat.min_self,<-hl,kh_,hl];simp
  .rw[ki!];have:(f_==ai_)=false:=by simpa using hl
   rw[this,QR]
 rw[e]at z;exact z
def a5l{ds es:b!}{A:x9!}(I:d!)(qa:oB_)(qb:Fn X.K H b ws)(rd:hl!)(re:hl_)(hu:at!)
  (h:kf!):SeqAt.RcAt A s ae! d2! (Io ds es):=by
 show"!@";have h4:=kg!;by_cases hl:f_=ai_
 .have z:=SeqAt.RcAt.lists (A:=A) (e:=kf_) p1.isList p2.isList of! hu kg_;rw[HX,<-h3,<-B,kh_]at z;exact z
 .rw[ki!];exact SeqAt.RcAt.lists_lengths p1.isList p2.isList w3! hu
def c0e(I:d!)(q:kc_):∃items,s.heap.IsTuple a items:=let⟨its,_,p,_⟩:=I.tuple q;⟨_,p⟩
def b5o(I:d!)(q:oB_):∃items,s.heap.IsList a items:=let⟨its,_,p,_⟩:=I.list q;⟨_,p.isList⟩
inductive RV(X:Cx)(H:Hp)(s:xA!):D->Value->Prop
 |non:RV X H s .non .none
 |bl (b:Bool):RV X H s bM_ l4!
 |int (i:Int) (t:Tok):RV X H s by_ dD!
 |str (x:Str) (t:Tok):RV X H s dK! lw_
 |tup {xs:b!} {a:xz!} {its:W!}:s.heap.IsTuple a its->RV X H s bJ_ ae!
 |lst {xs:b!} {a:xz!} {its:W!}:s.heap.IsList a its->RV X H s R! ae!
def zD(I:d!)(n:cJ_)(r:en!)(ru:by!):RV X H s d u:=by
 cases d with
 |non=>cases eF r;cases ru;exact .non
 |bl b=>cases cW r;cases ru;exact .bl b
 |int b=>cases bD r;obtain⟨t,rfl⟩:=ru;exact .int b t
 |str b=>cases cG r;obtain⟨t,rfl⟩:=ru;exact .str b t
 |tup ys=>obtain⟨a,ws,rfl,q,_⟩:=bT r;cases ru;obtain⟨its,p⟩:=c0e I q;exact .tup p
 |lst ys=>obtain⟨a,ws,rfl,q,_⟩:=bU r;cases ru;obtain⟨its,p⟩:=b5o I q;exact .lst p
 |fn a=>unfold Bh at n;cases n
 |dk a=>unfold Bh at n;cases n
def mR(I:d!){A:x9!}(n:cJ_)(n':fq_)(hu:at!)(r:en!)(r':hm_)(ru:by!)(ap:hn!)(hT:∀xs ys,d=.tup xs->d'=.tup ys->SeqAt.EqAt A s u u' dt!)(hL:∀xs ys,d=.lst xs->d'=.lst ys->SeqAt.EqAt A s u u' dt!):SeqAt.EqAt A s u u' dt!:=by
 show"!k"
 all_goals first|exact hT _ _ rfl rfl|exact hL _ _ rfl rfl|(unfold Dw;with_reducible first|exact .none_none|exact .same _|exact .none_bool _|exact .none_int _ _|exact .none_str _ _|exact .none_tuple ‹_› hu|exact .none_list ‹_› hu|exact .bool_none _|exact .bool_bool _ _|exact .bool_int _ _ _|exact .bool_str _ _ _|exact .bool_tuple _ ‹_› hu|exact .bool_list _ ‹_› hu|exact .int_none _ _|exact .int_bool _ _ _|exact .int_int _ _ _ _|exact .int_str _ _ _ _|exact .int_tuple _ _ ‹_› hu|exact .int_list _ _ ‹_› hu|exact .str_none _ _|exact .str_bool _ _ _|exact .str_int _ _ _ _|exact .str_str _ _ _ _|exact .str_tuple _ _ ‹_› hu|exact .str_list _ _ ‹_› hu|exact .tuple_none ‹_› hu|exact .tuple_bool _ ‹_› hu|exact .tuple_int _ _ ‹_› hu|exact .tuple_str _ _ ‹_› hu|exact .tuple_list ‹_› ‹_› hu|exact .list_none ‹_› hu|exact .list_bool _ ‹_› hu|exact .list_int _ _ ‹_› hu|exact .list_str _ _ ‹_› hu|exact .list_tuple ‹_› ‹_› hu)
def c7a(I:d!){A:x9!}(n:cJ_)(n':fq_)(hu:at!)(r:en!)(r':hm_)(ru:by!)(ap:hn!)(hT:∀xs ys,d=.tup xs->d'=.tup ys->SeqAt.RcAt A s u u' dt!)(hL:∀xs ys,d=.lst xs->d'=.lst ys->SeqAt.RcAt A s u u' dt!):SeqAt.RcAt A s u u' dt!:=by
 show"!k"
 all_goals first|exact hT _ _ rfl rfl|exact hL _ _ rfl rfl|(unfold Dw;with_reducible first|exact .none_none|exact .same _|exact .none_bool _|exact .none_int _ _|exact .none_str _ _|exact .none_tuple ‹_› hu|exact .none_list ‹_› hu|exact .bool_none _|exact .bool_bool _ _|exact .bool_int _ _ _|exact .bool_str _ _ _|exact .bool_tuple _ ‹_› hu|exact .bool_list _ ‹_› hu|exact .int_none _ _|exact .int_bool _ _ _|exact .int_int _ _ _ _|exact .int_str _ _ _ _|exact .int_tuple _ _ ‹_› hu|exact .int_list _ _ ‹_› hu|exact .str_none _ _|exact .str_bool _ _ _|exact .str_int _ _ _ _|exact .str_str _ _ _ _|exact .str_tuple _ _ ‹_› hu|exact .str_list _ _ ‹_› hu|exact .tuple_none ‹_› hu|exact .tuple_bool _ ‹_› hu|exact .tuple_int _ _ ‹_› hu|exact .tuple_str _ _ ‹_› hu|exact .tuple_list ‹_› ‹_› hu|exact .list_none ‹_› hu|exact .list_bool _ ‹_› hu|exact .list_int _ _ ‹_› hu|exact .list_str _ _ ‹_› hu|exact .list_tuple ‹_› ‹_› hu)
mutual
theorem c0r(I:d!):∀(d d':D) (A:x9!) (v v':V) (u u':x6!),Bh d=true->Bh d'=true->A.units+Ij d<cLine->Au X.K H d v->Au X.K H d' v'->Bs v u->Bs v' u'->SeqAt.EqAt A s u u' dt!
 |.non,d',A,v,v',u,u',n,n',hu,r,r',ru,ap=>mR I n n' a! r r' ru ap bd! bd!
 |.bl _,d',A,v,v',u,u',n,n',hu,r,r',ru,ap=>mR I n n' a! r r' ru ap bd! bd!
 |.int _,d',A,v,v',u,u',n,n',hu,r,r',ru,ap=>mR I n n' a! r r' ru ap bd! bd!
 |.str _,d',A,v,v',u,u',n,n',hu,r,r',ru,ap=>mR I n n' a! r r' ru ap bd! bd!
 |.fn _,d',A,v,v',u,u',n,n',hu,r,r',ru,ap=>mR I n n' a! r r' ru ap bd! bd!
 |.dk _,d',A,v,v',u,u',n,n',hu,r,r',ru,ap=>mR I n n' a! r r' ru ap bd! bd!
 |.tup xs,d',A,v,v',u,u',n,n',hu,r,r',ru,ap=>mR I n n' a! r r' ru ap (λ_ ys e e'=>by
  cases e;subst e';obtain⟨a,vs,rfl,q,rr⟩:=bT r;obtain⟨b,ws,rfl,q',bz⟩:=bT r';cases ru;cases ap;by_cases lj:a=b
  .subst lj;rw[w3_];exact .same _
  .unfold Bh at n n';unfold Ij at hu;unfold Dw;exact .of_refs lj (zG I q q' rr bz a! λus us' rv ak=>kZ I xs ys A.in1 vs ws us us' n n' fr_ rr bz rv ak)) bd!
 |.lst xs,d',A,v,v',u,u',n,n',hu,r,r',ru,ap=>mR I n n' a! r r' ru ap bd! (λ_ ys e e'=>by
  cases e;subst e';obtain⟨a,vs,rfl,q,rr⟩:=bU r;obtain⟨b,ws,rfl,q',bz⟩:=bU r';cases ru;cases ap;by_cases lj:a=b
  .subst lj;rw[w3_];exact .same _
  .unfold Bh at n n';unfold Ij at hu;unfold Dw;exact .of_refs lj (a5l I q q' rr bz a! λus us' rv ak=>kZ I xs ys A.in1 vs ws us us' n n' fr_ rr bz rv ak))
theorem kZ(I:d!):∀(ds es:b!) (A:x9!) (vs ws:l_) (us us':i!),Bp ds=true->Bp es=true->A.units+Dj ds<cLine->Ao X.K H ds vs->Ao X.K H es ws->Bc vs us->Bc ws us'->
  ∀(j:Nat) u u',us[j]?=some u->us'[j]?=some u'->SeqAt.EqAt A s u u' kd_
 |[],es,A,vs,ws,us,us',n,n',hu,r,r',rv,ak,j,u,u',e,e'=>by
  cases cM r;cases rv;simp at e
 |d::ds,es,A,vs,ws,us,us',n,n',hu,r,r',rv,ak,j,u,u',e,e'=>by
  obtain⟨v,t,rfl,r1,r2⟩:=bN r;cases es with
  |nil=>
   cases cM r';cases ak;simp at e'
  |cons c es=>
   obtain⟨w,t',rfl,yr,yt⟩:=bN r';unfold Bp at n n';rw[IZ]at n n';unfold Dj at hu;cases rv with
   |cons ll j7=>
    cases ak with
    |cons YU YV=>
     cases j with
     |zero=>
      simp at e e';subst e e';exact c0r I d c A v w _ _ n.1 n'.1 a! r1 yr ll YU
     |succ j=>
      exact kZ I ds es A t t' _ _ n.2 n'.2 a! r2 yt j7 YV j u u' cS! (by simpa using e')
end
def c7b(I:d!)(d d':D){A:x9!}(n:cJ_)(n':fq_)(hu:w4_)(r:en!)(r':hm_)(ru:by!)(ap:hn!):SeqAt.RcAt A s u u' dt!:=
 c7a I n n' a! r r' ru ap (λxs ys e e'=>by
  subst e e';obtain⟨a,vs,rfl,q,rr⟩:=bT r;obtain⟨b,ws,rfl,q',bz⟩:=bT r';cases ru;cases ap;unfold Bh at n n';unfold Ij at hu;unfold Dw;exact zG I q q' rr bz a! λus us' rv ak=>kZ I xs ys A.in1 vs ws us us' n n' fr_ rr bz rv ak) (λxs ys e e'=>by
  subst e e';obtain⟨a,vs,rfl,q,rr⟩:=bU r;obtain⟨b,ws,rfl,q',bz⟩:=bU r';cases ru;cases ap;unfold Bh at n n';unfold Ij at hu;unfold Dw;exact a5l I q q' rr bz a! λus us' rv ak=>kZ I xs ys A.in1 vs ws us us' n n' fr_ rr bz rv ak)
def CF(K:xB!):R2:=λx y H Q=>∃dx dy,Au K H dx x/\Au K H dy y/\Bh dx=true/\Bh dy=true/\Ij dx<=40/\Q (.bl (Dw dx dy)) H
def bY(hu:au!):Gs X (compareOp .Eq) (CF X.K):=by intro J s Z H x y v u Q I rx ry h;obtain⟨dx,dy,r1,r2,n1,n2,hd,q⟩:=h;exact c7b I dx dy n1 n2 a! r1 r2 rx ry X.prog X.w X.xe _ ki_
def Aw:D->D->Option D:=λx y=>if Bh x&&Bh y&&decide (Ij x<=40)then some (.bl (Dw x y))else none
def bZ{K:xB!}:Ip K (CF K) Aw:=by
 show"!/";unfold Aw at e;show"!6"
 .show"!t";cases e;exact w5_
 .cases e
end
section
variable{X:Cx}{own:List Nat}{e a b c o i tg:Expr}{es:List Expr}{pos p2:Pos}{f fa fb fc fe:Ad->Option D}{fs fi:Ad->Option (List D)}{ft fu:Ad->Option Bool}
def Cd(g g':a1_)(fa fb fc:e!):Ad->Option D:=λρ=>(fj_).bind λx=>(jS_).bind λy=>(g x y).bind λz=>match z with
 |.bl true=>(fc ρ).bind λu=>g' y u
 |.bl false=>some X_
 |_=>none
def a7t{op ff:CmpOp}{r r':R2}{g g':a1_}(ho:ca_)(hg:eh_)(de:iN!)(sn:Ip X.K r' g')(ha:Z!)(hb:cG_)(hc:DE X own c fc)
  (hm:iN_:=by with_unfolding_all rfl):DE X own iO! w6!:=
 eW (b8k ho de ha.ok hb.ok hc.ok hm) λZ G H Q ρ d er e k=>by
  obtain⟨x,e1,e⟩:=HM.mp e;obtain⟨y,e2,e⟩:=HM.mp e;obtain⟨z,e3,e⟩:=HM.mp e;refine w6_;have nv:=s1.trans g9!;cases z<;>first|cases e|skip
  rename_i bb;cases cW r3;refine w7_;cases bb with
  |true=>
   obtain⟨u,e4,e⟩:=HM.mp e;exact mM ⟨G3,ρ,u,er.grow nv,e4,λq G4 H4 s4 r4=>sn s4.sub w8! r4 e λv G5 H5 s5 r5=>k v G5 H5 w8_ r5⟩
  |false=>
   cases e;exact mN (k _ G3 H3 nv Au.bl)
def Xv(f:e!):Ad->Option D:=λρ=>(am!).bind λd=>match d with|.int i=>some (.int (-i))|_=>none
def c1c(h:Z!):DE X own (.UnaryOp .USub a pos) (Xv fa):=
 eW (d0t c6q h.ok) λZ G H Q ρ d er e k=>by
  obtain⟨x,e1,e⟩:=HM.mp e;cases x<;>first|cases e|skip
  refine fn!;cases bD r1;exact⟨_,rfl,k _ G1 H1 s1 Au.int⟩
def Ky:D->Bool
 |.non=>true
 |.bl _=>true
 |.int _=>true
 |.str _=>true
 |_=>false
def a7k{K:xB!}{H:Hp}(h:Ky d=true)(r:g2_):Ng v=true:=by
 cases d<;>first
  |(cases h;done)
  |(cases eF r;rfl)
  |(cases cW r;rfl)
  |(cases bD r;rfl)
  |(cases cG r;rfl)
def c4s{K:xB!}{H:Hp}(h:Ky d=true)(h':Ky d'=true)(r:g2_)(r':Au K H d' v'):Yi v v'=Dw d d':=by
 cases d<;>first
  |(cases h;done)
  |skip
 all_goals (cases d'<;>first
  |(cases h';done)
  |skip)
 all_goals first
  |(cases eF r)
  |(cases cW r)
  |(cases bD r)
  |(cases cG r)
 all_goals first
  |(cases eF r')
  |(cases cW r')
  |(cases bD r')
  |(cases cG r')
 all_goals simp[Yi,Dw]
def a7m{K:xB!}{H:Hp}:∀{ds:b!} {vs:l_},ds.all Ky=true->Ao K H ds vs->vs.all Ng=true
 |[],vs,_,r=>by cases cM r;rfl
 |d::ds,vs,h,r=>by
  obtain⟨v,t,rfl,r1,r2⟩:=bN r;rw[NR,IZ]at h;rw[NR,IZ];exact⟨a7k h.1 r1,a7m h.2 r2⟩
def a7l{K:xB!}{H:Hp}(O:Ky x=true)(rx:Au K H x v):∀{ds:b!} {vs:l_},ds.all Ky=true->Ao K H ds vs->DN v vs=ds.any λd=>Dw d x
 |[],vs,_,r=>by cases cM r;rfl
 |d::ds,vs,h,r=>by
  obtain⟨w,t,rfl,r1,r2⟩:=bN r;rw[NR,IZ]at h;have ih:=a7l O rx h.2 r2;unfold DN at ih ⊢;rw[MD,MD,ih,c4s h.1 O r1 rx]
def AO:D->Option aQ_
 |.tup xs=>some xs
 |.lst xs=>some xs
 |_=>none
def Vl(neg:Bool):D->D->Option D:=λx y=>(AO y).bind λds=>if Ky x&&ds.all Ky then some xa! else none
def d1d{K:xB!}{neg:Bool}:Ip K (EZ K neg) (Vl neg):=by
 show"!/";show"!G"
 .rename_i h;rw[IZ]at h;cases e;have fin:∀{p:xz!} {vs:l_},(Fn K H p vs\/Gc K H p vs)->Ao K G ds vs->y=V.ref p->EZ K neg x y H Q:=λ{p vs} q r ey=>by
   refine⟨p,vs,ey,q,a7k h.1 rx,a7m h.2 r,?_⟩;rw[a7l h.1 rx h.2 r];show"!q"
  cases dy<;>first|(cases e1;done)|skip
  .cases e1;obtain⟨p,vs,ey,q,r⟩:=bT ry;exact fin (.inr kj!) r ey
  .cases e1;obtain⟨p,vs,ey,q,r⟩:=bU ry;exact fin (.inl (sub.seq q)) r ey
 .cases e
structure Uz(X:Cx)(x:Str)(bj:aS_):Prop where
 ex:∃(ad:xz!) (kvs:nT!) (vs:List zi_),X.mg x=some kV_/\oD_=false/\(∀h:Heap,X.K.In h->h.DictOf (mixKind X.prog X.w) ad vs)/\KV kvs vs/\
  (∀y,Nq kvs en_=none↔bj.lookup y=none)/\∀y d,bj.lookup y=some d->∃v,Nq kvs en_=some v/\∀H,Au X.K H d v
def Zb(bj:aS_)(neg:Bool)(f:e!):Ad->Option D:=λρ=>(am!).bind λd=>match d with|.str y=>some (.bl (if neg then !(oE!).isSome else(oE!).isSome))|_=>none
def Wg(bj:aS_)(f:e!):Ad->Option D:=λρ=>(am!).bind λd=>match d with|.str y=>bj.lookup y|_=>none
def c5b{x:Str}{bj:aS_}(hd:Uz X x bj)(hg:X!)(ha:Z!)(bx:CV a)(be:H!:=by decide):DE X own (.Subscript do_ a pos) (Wg bj fa):=by
 show"#C";refine eW (t:=λZ H Q=>tD X.K own fa Z H λv H1=>∃y u,v=.str y/\Nq kvs en_=some u/\Q u H1) xb_ λZ G H Q ρ d er e k=>?_
 .refine c2g PySem.F.slot_dict_getitem.lookup bx (kQ I hg j2 (dO xc! λv s1 ⟨y,H1,I1,r1,z,u,hz,hu,q1⟩=>?_) be);subst hz;have dd:=yu _ I1.kIn;obtain⟨w',hw,ak⟩:=Ol.some_of (v:=u) (o:=valueAt vs oF!) (by rw[<-hu];exact yw.val oF!);have ty:s1.TypeIs kV_ "dict":=by
   obtain⟨o,es,ep,B,Y,_⟩:=dd;exact⟨o,B,Y.1⟩
  exact⟨ty,wpAny_getItem_of (knd:=xd_) (k:=oF_) xe! dd.mapOf hw ⟨u,H1,I1.tok _,ak,q1⟩⟩
 .obtain⟨x,e1,e⟩:=HM.mp e;cases x<;>first|(cases e;done)|skip
  rename_i y;obtain⟨v,hv,L⟩:=hs y d e;refine⟨G,ρ,_,er,e1,λw G1 H1 s1 r1=>?_⟩;cases cG r1;exact⟨y,v,rfl,hv,k _ G1 H1 s1 (L G1)⟩
def Ok(P:x4!)(w:x5!)(K:xB!)(mg:y_)(base:Heap)(k:Nat)(x:Str)(ps:p!)(g:ai!):Prop:=
 ∃hr fd,Fj P w K mg base Pz k hr fd ps kc!/\Ex K fd ps []/\mg x=some bV_/\W.keepIn K bV_=true
def aR{k:Nat}{ps:p!}{g:ai!}{x:Str}(F:xe_)(L:cb_)(hg:X!)(ha:jX_)(am:wp!)
  (hn:wo_:=by rfl)(be:H!:=by decide)(he:aB_:=by rfl)(az:a7_:=by rfl):
  DE X own bC! od!:=by
 obtain⟨hr,fd,B,Y,h3,h4⟩:=F;exact c5c B L hg h3 h4 Y ha hn am be he az
def Zy(P:x4!)(w:x5!)(K:xB!)(mg:y_)(base:Heap)(k n:Nat)(bj:oG!):Prop:=
 ∀hr g,bj hr=some g->∃fd ps,T_=n/\Fj P w K mg base Pz k hr fd ps kc!/\Ex K fd ps []/\W.keepIn K bV_=true
def Oy(bj:oG!)(i:Nat)(fs:as_):Ad->Option D:=λρ=>(Aa i ρ).bind λd=>match d with|.fn hr=>(bj hr).bind λg=>(fk!).bind g|_=>none
def c1d{k n j:Nat}{bj:oG!}{x:Str}(F:Zy X.prog X.w X.K X.mg X.base k n bj)(L:cb_)(ha:jX_)(am:wp_)
  (hj:j∉own:=by decide)(hN:vy!:=by rfl)(hv:c0!:=by first|exact Or.inl rfl|exact Or.inr a_|exact Or.inr bc_)(be:H!:=by decide)(b6:c0_:=by decide)
  (he:aB_:=by rfl)(az:a7_:=by rfl):
  DE X own bC! (Oy bj j fs):=⟨by
 intro J s Z H Q I h;obtain⟨G,ρ,d,er,e1,kk⟩:=h;obtain⟨z,e2,e1⟩:=HM.mp e1;cases z<;>first|(cases e1;done)|skip
 rename_i hr;obtain⟨g,e3,e1⟩:=HM.mp e1;obtain⟨ds,e4,e1⟩:=HM.mp e1;obtain⟨fd,ps,lm,F1,F2,F3⟩:=F hr g e3;obtain⟨v,B,Y⟩:=er.at_ j _ (join_some e2) hj;cases fZ Y;refine ML (dO (oO hN hv be b6 J s Z H (λu H'=>u=.ref hr/\H'=H) I ⟨_,B,rfl,rfl⟩) λu s1 ⟨y,H1,I1,r1,hy,hH⟩=>?_);subst hy hH;cases r1;refine W.callWith_K (h₀:=X.base) I1.ok.mod.kin F3 (dO (ha.ok pos J s1 Z H1 _ I1 ⟨G,ρ,ds,er,e4,λvs G2 H2 s2 r2=>(?_:(λvs H2=>Yp X.K ps.length g vs H2 Q E0) vs H2)⟩) λus s2 ⟨vs,H2,I2,r2,q2⟩=>rE_) he az
 .exact⟨by rw[<-aJ r2,am ρ ds e4,lm],G2,ds,d,s2.sub,r2,e1,λv G3 H3 s3 r3=>kk v G3 H3 g9! r3⟩
 .exact a1q (dvs:=[]) (ds:=[]) F1 L F2 .nil vX I2 r2 (by rw[JC];exact q2)⟩
def DZ(x:Str):It:=⟨xf_,λi H v H'=>H'=H/\∃c,x.cps[i]?=some c/\v=.str ar_,xg!⟩
def AR(f:e!):Ad->Option aQ_:=λρ=>(am!).bind λd=>match d with|.str x=>some xg_|_=>none
def c4f{K:xB!}{G1:Hp}{x:Str}:Zi K (DZ x) xg_ G1:=by intro i G' H' s1 s2;refine⟨el!,λhi=>by rw[IF,JV]at hi;exact PH hi.symm⟩;rw[JG]at hd;obtain⟨c,hc,rfl⟩:=IB.mp hd;rw[NM]at hc;refine xh!;obtain⟨e1,c',bu,e2⟩:=hy;subst e1;rw[hc]at bu;cases bu;subst e2;exact⟨G',j2!,Au.str⟩
def a4p{K:xB!}{x:Str}{St':dN_}(hd:xh_)
  (W:∀A':Around,oH!=none->Walks P w A' it [it] [it] x.cps.size (SignAt x) St')(YW:∀(A:x9!) (i:Nat) (s:xA!) (Q:p_) (E:p_),St' i s.heap->Q b8! s->wpAny L_ A (pyIter b8!) Q E s):
  Ti P w K ho_ (DZ x) [it] it xj_ where
 mem:=by simp
 obj:=λi h st b hb=>by
  have e:b=it:=by simpa using hb
  subst e;exact hd i h st.2
 keep:=λi h h' st k=>⟨st.1,by
  have Wd:=W callerA rfl;exact Wd.frame i h h' st.2 λb hb o e=>k b hb o e⟩
 item:=by
  show"!0";show"!2";refine(W X.A bz_).item i s _ _ hg st.2 λv h' tk hv h2 kk=>?_;obtain⟨cc,u,j0,rfl⟩:=hv;show"!]";exact⟨_,rfl,HN ⟨.str ⟨#[cc]⟩,H,I1,⟨u,rfl⟩,⟨rfl,cc,j0,rfl⟩,⟨hg,h2⟩,mk_⟩⟩
 done:=by
  show"!0";show"!2";show"#B";exact(W X.A bz_).done s _ _ st.2 λh' tk kk=>⟨rfl,I.turned mm! f0 f1 f3 f4 f5⟩
 self:=λA i s Q E st h=>YW A i s Q E st.2 h
def c7g{tl:TE}(hl:PE X a tl):PI X ho_ a (λZ H R=>tl Z H λv H1=>∃x,v=.str x/\R (DZ x) H1):=by
 intro J s Z H R I h;refine dO r5! λv s1 ⟨u,H1,I1,r1,x,O,q⟩=>?_;subst O;obtain⟨t,rfl⟩:=r1;have UT:∀(ty:String) (i:Nat) (h:Heap),h.IsStrIter s1.heap.objs.size ty x t i->∃o,h.get? E!=some o/\∀v,o.data≠.cell v:=λty i h st=>by
  show"#!"
 have fin:∀(ob:Obj) (St':dN_),Ti X.prog X.w X.K ho_ (DZ x) [E!] s1.heap.objs.size xj_->St' 0 (s1.heap.push ob)->
   DU X J Z ho_ R (.ref E!) {s1 with heap:=s1.heap.push ob}:=λob St' T st=>by
  refine⟨E!,[E!],_,_,H1,rfl,mm_,T,⟨JU _,st⟩,bA_,q⟩;have e:b=E!:=by simpa using hb
  show"!o"
 cases ha:x.cps.all (·<128)with
 |false=>
  exact wpAny_pyIter_wide ha (fin _ _ (a4p xk_ (λA' hA=>Walks.strWide hA _ x t) λA i s Q E st h=>wpAny_pyIter_striter_wide st h) eR!)
 |true=>
  exact wpAny_pyIter_ascii ha (fin _ _ (a4p xk_ (λA' hA=>Walks.strAscii hA _ x t) λA i s Q E st h=>wpAny_pyIter_striter_ascii st h) eR!)
def c9a(h:Z!):DI X own ho_ a (AR fa):=a7q (c7g h.ok) λZ G H R ρ ds er e k=>by
 obtain⟨d,e1,e2⟩:=HM.mp e;cases d with
 |str x=>
  cases e2;refine fn!;cases cG r1;exact⟨x,rfl,k _ G1 H1 s1 c4f⟩
 |_=>cases e2
def yX:∀{ys:p!} {us:i!},Bc xl_ us->StrsAre us ys
 |[],_,.nil=>.nil
 |y::ys,_,.cons r t=>by
  obtain⟨k,rfl⟩:=r;exact .cons y k (yX t)
def BW(K:xB!):V->List V->Hp->VK->Prop:=λx vs H Q=>∃(z:Str) (p:xz!) (ys:p!),x=.str z/\vs=gM_/\Fn K H p xl_/\(kk_).sum+ac_*jh!<=16777216/\Q xm! H
def b2n:GN X "str.join" (BW X.K):=by intro J s Z H x xs v us Q I rx r h;obtain⟨z,p,ys,rfl,rfl,hq,hz,q⟩:=h;obtain⟨t,rfl⟩:=rx;obtain⟨u,rfl,r1⟩:=vC r;cases r1;obtain⟨its,rv,pl,_⟩:=I.list hq;exact join_list pl.isList (by simpa using yX rv) hz λt' k=>⟨.str _,H,a5_,I_,q⟩
def Qf:List D->Option (List Str)
 |[]=>some []
 |.str x::r=>(Qf r).map (x::·)
 |_=>none
def vQ{K:xB!}{H:Hp}:∀{ds:b!} {vs:l_} {ys:p!},Ao K H ds vs->Qf ds=some ys->vs=ys.map V.str
 |[],vs,ys,r,e=>by cases cM r;cases e;rfl
 |d::ds,vs,ys,r,e=>by
  obtain⟨v,t,rfl,r1,r2⟩:=bN r;cases d<;>first|(cases e;done)|skip
  obtain⟨YX,e1,rfl⟩:=IB.mp e;cases cG r1;rw[vQ r2 e1];rfl
def Nf:D->D->Option D
 |.str z,.lst xs=>(Qf xs).bind λys=>if(kk_).sum+ac_*jh!<=big then some xm! else none
 |_,_=>none
def Xw(fo fa:e!):Ad->Option D:=λρ=>(fo ρ).bind λx=>(fj_).bind λy=>Nf x y
def c4z{fo:e!}{ag ab:Pos}(ho:DE X own o fo)(ha:Z!)
  (fg:attributeBase o "join" X.env c5!=eval o X.env:=by rfl)
  (fh:((kl!).all cd_&&(ce!).all ce_
   &&decide kl_)=true:=by rfl)
  (fm:dd_:=by rfl) (hs:hg!:=by rfl) (fq:fo_:=by rfl):
  DE X own (.Call (.Attribute o "join" ag) [a] [] ab) (Xw fo fa):=
 eW (vW PySem.F.plainAttrs_str PySem.F.slot_str_join PySem.F.type_str_join b2n ho.ok xo! fg fh fm hs fq) λZ G H Q ρ d er e k=>by
  show"!;";obtain⟨y,e2,e⟩:=HM.mp e;unfold Nf at e;show"!6"
  .obtain⟨ys,e3,e⟩:=HM.mp e;show"!6"
   .show"!F";refine fn!;cases cG r1;refine⟨rfl,G1,ρ,_,dm!,e2,xo_⟩;obtain⟨p,vs,rfl,q,rr⟩:=bU r2;have:=vQ rr e3;subst this;exact⟨_,p,ys,rfl,rfl,s2.sub.seq q,JD hl c_,k _ G2 H2 dn_ Au.str⟩
   .cases e
  .cases e
end
section
variable{prog:x4!}{w:x5!}{A:x9!}{E:Value->Shared->Prop}{s:xA!}
def a2c{n:Nat}{xs:W!}{Q:p_}(g1:xp!)(g2:xp_)(g3:xs[n]?=some v)
  (k:∀h',h'.IsTupleIter jt tt cJ!->Heap.SameBut jt s.heap h'->Q v {s with heap:=h'}):wpAny r_ A xq! Q E s:=by
 show"!7";show"!Z";refine HL (RM eo ed d_ (HN ⟨v,rfl,HN (k _ ?_ eo!)⟩));exact⟨_,NZ _ eo (Obj.isFreed_of_fields (QB ed _)),(xt_).trans ec,by rw[QB ed];simp[rawInt]⟩
def wF{n:Nat}{xs:W!}{Q:p_}(hh:e3_)(g1:xp!)(g2:xp_)(g3:xs[n]?=none)
  (k:∀h' e,Heap.ExtBut jt s.heap h'->(∃o,h'.get? e=some o/\o.cls=.type "StopIteration")->E (.ref e) {s with heap:=h'}):wpAny r_ A xq! Q E s:=by
 show"!7";show"!Z";refine HL (LJ (HL (RM eo ed d_ ?_)));refine HL ?_;simp only[newExc,newTuple];refine HL (KY ?_ km_);refine HL (m:=xu!) (wpAny_of_eq (a:=dD_) xu_ ?_);refine KY ?_ km_;simp only[raiseNew];refine HL xv!
 first|rw[xv_]|rw[hh]
 refine HL xw!;exact k _ _ xw_ oJ!
def cE{h h':Heap}{n:Nat}(x:h.IsTupleIter aa tt n)(hs:Heap.ExtBut bb h h')(ne:aa≠bb):h'.IsTupleIter aa tt n:=let⟨ob,eo,r⟩:=x;⟨ob,hs _ _ ne eo,r⟩
def a8j{TI TO:xz!}{k1 k2:Nat}{xs ys:W!}{Q:p_}(D:kn_)
  (gz:ko!)(gI:ko_)(gO:kp!)
  (g1:kp_)(g2:kq!)(ij:hp!)(ip:hp_)(gx:xx!)(gy:xx_)
  (kk:∀h',IsZip h' z TI TO (rawInt q_)->IsPair h' TO x y->h'.IsTupleIter i1 l1 (k1+1)->h'.IsTupleIter i2 l2 (k2+1)->IsPair h' s.heap.objs.size x y->
   kq_->Q c6! {s with heap:=h'}):
  wpAny r_ A xy! (λfin s'=>∃v,fin=.done (.ret v)/\Q v s') E s:=by
 show"!w";show"!C";refine HL xB_
 replace lp:IsZip B z TI TO .ellipsis:=lp
 refine HL ?_;simp only[OA,QJ,NI,PN];refine HL kr!;refine HL xD!;have sv:IsPair Y TO p q:=bm.extBut _ _ D.TOi1 xD_;refine HL xE!;refine HL xE_
 replace wb:IsPair h3 TO x q:=wb
 refine HL (QN af!);refine HL kr!;refine HL (a2c xF! xF_ gy λh4 YY jl=>HN ?_);have UV:IsPair h4 TO x q:=jl.extBut _ _ D.TOi2 wb;refine HL (NN UV rfl ?_);refine HL (RH UV λh5 wc lu=>?_)
 replace wc:IsPair h5 TO x y:=wc
 refine HL (QN (HN af!));refine HL (NN wc rfl ?_);refine HL (wpAny_newTuple ?_);have sz:kr_=q_:=by rw[lu.1,jl.1,c9.1,bm.1,bp.1]
 have UW:IsZip h5 z TI TO .ellipsis:=lu.extBut _ _ D.TOz.symm (jl.extBut _ _ D.i2z.symm xG_);have YZ:∀c ob,c≠z->c≠TO->c≠i1->c≠i2->s.heap.get? c=some ob->h5.get? c=some ob:=λc ob c1 c2 c3 c4 e=>lu.extBut _ _ c2 (jl.extBut _ _ c4 (c9.extBut _ _ c2 (bm.extBut _ _ c3 (bp.extBut _ _ c1 e))));have Y0:h5.IsTupleIter i1 l1 (k1+1):=cE (cE (cE UU c9.extBut D.TOi1.symm) jl.extBut D.i12) lu.extBut D.TOi1.symm;have Y1:h5.IsTupleIter i2 l2 (k2+1):=cE YY lu.extBut D.TOi2.symm;have UX:z<kr_:=IY UW;refine HL ?_;unfold Builtin.SmallTypes.ownedTupleHandOut;have Y2:IsZip (h5.push {cls:=.type "tuple",data:=.seq #[x,y]}) z TI TO .ellipsis:=HS _ UW;refine HL (NT Y2 d_ λh7 y6 UY=>?_)
 replace y6:IsZip h7 z TI TO (rawInt kr_):=y6
 refine NT y6 d_ λh8 we UZ=>?_
 replace we:IsZip h8 z TI TO (rawInt kr_):=we
 have up:∀c ob,c≠z->h5.get? c=some ob->h8.get? c=some ob:=λc ob c1 e=>UZ.extBut _ _ c1 (UY.extBut _ _ c1 (HS _ e));have U':IsPair h8 h5.objs.size x y:=UZ.extBut _ _ (OT UX) (UY.extBut _ _ (OT UX) oJ_);rw[sz]at we U';refine HN oK!;rw[sz];obtain⟨wf,Y3,r1⟩:=Y0;obtain⟨p7,Y4,r2⟩:=Y1;exact kk h8 we (up _ _ D.TOz wc) ⟨wf,up _ _ D.i1z Y3,r1⟩ ⟨p7,up _ _ D.i2z Y4,r2⟩ U' λc ob c1 c2 c3 c4 e=>up c ob c1 (YZ c ob c1 c2 c3 c4 e)
def b3o{TI TO:xz!}{k1 k2:Nat}{xs ys:W!}{Q:Fin->Shared->Prop}(hh:e3_)(D:kn_)
  (gz:ko!)(gI:ko_)(gO:kp!)
  (g1:kp_)(g2:kq!)(ij:hp!)(ip:hp_)(ge:xH!)
  (kk:∀h' e,kq_->(∃ob,h'.get? e=some ob/\ob.cls=.type "StopIteration")->E (.ref e) {s with heap:=h'}):
  wpAny r_ A xy! Q E s:=by
 show"!w";show"!C";refine HL xB_
 replace lp:IsZip B z TI TO .ellipsis:=lp
 refine HL ?_;simp only[OA,QJ,NI,PN];refine HL kr!;cases gx:xs[k1]? with
 |none=>
  refine HL (wF hh xC! xC_ gx λY e bm he=>?_);obtain⟨oe,ny,sw⟩:=he;have VA:IsZip Y z TI TO .ellipsis:=bm _ _ D.i1z.symm lp;have zc:e≠z:=λx=>by subst x;rw[VA]at ny;cases ny;simp at sw
  refine NT VA d_ λh3 _ c9=>kk h3 e (λc ob c1 _ c3 _ x=>c9.extBut _ _ c1 (bm _ _ c3 xH_)) ⟨oe,c9.extBut _ _ zc ny,sw⟩
 |some x=>
  have gy:ys[k2]?=none:=by
   obtain h|h:=ge
   .rw[gx]at h;cases h
   .exact h
  refine HL xD!;have sv:IsPair Y TO p q:=bm.extBut _ _ D.TOi1 xD_;refine HL xE!;refine HL xE_;refine HL (QN af!);refine HL kr!;refine HL (wF hh xF! xF_ gy λh4 e jl he=>?_);obtain⟨oe,ny,sw⟩:=he;have VB:IsZip h4 z TI TO .ellipsis:=jl _ _ D.i2z.symm xG_;have zc:e≠z:=λx=>by subst x;rw[VB]at ny;cases ny;simp at sw
  refine NT VB d_ λh5 _ lu=>kk h5 e (λc ob c1 c2 c3 c4 x=>lu.extBut _ _ c1 (jl _ _ c4 (c9.extBut _ _ c2 (bm.extBut _ _ c3 xH_)))) ⟨oe,lu.extBut _ _ zc ny,sw⟩
def a9i{TI TO:xz!}{k1 k2:Nat}{xs ys:W!}{p:x6!}{Q:fu!}(D:kn_)
  (gz:ko!)(gI:ko_)(gO:kp!)
  (g1:kp_)(g2:kq!)(ij:hp!)(ip:hp_)(gx:xx!)(gy:xx_)
  (kk:∀h',IsZip h' z TI TO (rawInt q_)->IsPair h' TO x y->h'.IsTupleIter i1 l1 (k1+1)->h'.IsTupleIter i2 l2 (k2+1)->IsPair h' s.heap.objs.size x y->
   kq_->Q (some c6!) {s with heap:=h'}):
  wpAny r_ A (pyNext hq!) Q E s:=by
 have gT:s.TypeIs hq! "zip":=xI!;unfold pyNext;exact HL (PL (KC (name:=km!) gT RE (JO RE gT xI_
  (a8j D gz gI gO g1 g2 ij ip gx gy λh' a1 a2 a3 a4 a5 a6=>HN (kk h' a1 a2 a3 a4 a5 a6)) xJ!)))
def yF{TI TO:xz!}{k1 k2:Nat}{xs ys:W!}{p:x6!}{Q:fu!}(hh:e3_)(D:kn_)
  (gz:ko!)(gI:ko_)(gO:kp!)
  (g1:kp_)(g2:kq!)(ij:hp!)(ip:hp_)(ge:xH!)
  (kk:∀h',kq_->Q none {s with heap:=h'}):wpAny r_ A (pyNext hq!) Q E s:=by
 have gT:s.TypeIs hq! "zip":=xI!;unfold pyNext;refine HL (PL (KC (name:=km!) gT RE (JO RE gT xI_
  (b3o hh D gz gI gO g1 g2 ij ip ge λh' e hk he=>?_) xJ!)))
 obtain⟨ob,ho,hc⟩:=he;exact HL (wpAny_isInstance (T:=xJ_) (b:=true) ⟨ob,ho,hc⟩ isSubtype_stop (HN (kk _ hk)))
abbrev DF(h:Heap)(l1:xz!):Heap:=h.push {cls:=.type "tuple_iterator",data:=.fields #[.ref l1,.int 0 0]}
abbrev DD(h:Heap)(l1 l2:xz!):Heap:=(DF h l1).push {cls:=.type "tuple_iterator",data:=.fields #[.ref l2,.int 0 0]}
abbrev DC(h:Heap)(l1 l2:xz!):Heap:=(DD h l1 l2).push {cls:=.type "tuple",data:=.seq #[.ref cS_,.ref (DF h l1).objs.size]}
abbrev DB(h:Heap)(l1 l2:xz!):Heap:=(DC h l1 l2).push {cls:=.type "tuple",data:=.seq #[.none,.none]}
abbrev BB(h:Heap)(l1 l2:xz!):Heap:=(DB h l1 l2).push {cls:=.type "zip",data:=.fields #[.none,.bool false,.bool false,.ref (DD h l1 l2).objs.size,.ref (DC h l1 l2).objs.size]}
def a9z(l1 l2:xz!)(xs ys:W!):
  Meets (Builtin.«zip.__new__» ⟨[.type "zip",.ref l1,.ref l2],[]⟩) (λ_ R s=>s.heap.IsTuple l1 xs/\s.heap.IsTuple l2 ys/\R (.ok (.ret (.ref (oK_).objs.size))) {s with heap:=BB s.heap l1 l2}):=
 .of_wp λprog w A R s h=>by
  obtain⟨hp,g,d,tk,os⟩:=s;obtain⟨ij,ip,h⟩:=h;have hsub:=sub_zip;have Y5:Heap.IsTuple (Shared.heap hr_) l1 xs:=ij;have Y6:Heap.IsTuple (Shared.heap ⟨hp.push {cls:=.type "tuple_iterator",data:=.fields #[.ref l1,.int 0 0]},g,d,tk,os⟩) l2 ys:=let⟨ob,eo,r⟩:=ip;⟨ob,HS _ eo,r⟩
  wp_walk using wpAny_pyIter_tuple Y5,wpAny_pyIter_tuple Y6
  exact⟨_,rfl,h⟩
def c1r{xs ys:W!}{Q:p_}(ij:hp!)(ip:hp_)
  (kk:∀h',IsZip h' (q_+4) (q_+2) (q_+3) .none->IsPair h' (q_+2) c6! (.ref ae_)->
   IsPair h' (q_+3) .none .none->h'.IsTupleIter s.heap.objs.size l1 0->h'.IsTupleIter ae_ l2 0->(∀c ob,s.heap.get? c=some ob->h'.get? c=some ob)->Q (.ref (q_+4)) {s with heap:=h'}):
  wpAny r_ A (call oL! [.ref l1,.ref l2]) Q E s:=by
 refine callType_new F.called_zip c_ (F.typeCall_zip_2 _ _) (F.newCall_zip_2 _ _) (λobj=>F.args_object_init_3 obj _ _) F.entry_zip_new (a9z l1 l2 xs ys) ⟨ij,ip,?_⟩;have z1:(xL_).objs.size=q_+1:=OL ..;have z2:(xM!).objs.size=q_+2:=by rw[OL,z1]
 have z3:(xM_).objs.size=q_+3:=by rw[OL,z2]
 have z4:(oK_).objs.size=q_+4:=by rw[OL,z3]
 have y5:(hs_).get? (oK_).objs.size=some _:=IU _ rfl;have y4:(hs_).get? (xM_).objs.size=some _:=HS _ oJ_;have y3:(hs_).get? (xM!).objs.size=some _:=HS _ oL_;have y2:(hs_).get? (xL_).objs.size=some _:=HS _ (HS _ oL_);have y1:(hs_).get? q_=some _:=HS _ (HS _ (HS _ oL_));show _/\_;rw[z2,z3,z4]at y5;rw[z1,z2]at y3;rw[z3]at y4;rw[z1]at y2;rw[z4];exact⟨⟨_,y5,rfl⟩,kk _ y5 y3 y4 ⟨_,y1,rfl,rfl⟩ ⟨_,y2,rfl,rfl⟩ λc ob x=>HS _ (HS _ (HS _ (HS _ (HS _ x))))⟩
end
def DY(K:xB!)(a b:xz!):It:=
 ⟨λi H=>∃xs ys x y,Gc K H a xs/\Gc K H b ys/\xs[i]?=some x/\ys[i]?=some y,
   λi H v H'=>∃T,v=.ref T/\H T=none/\∀xs ys,Gc K H a xs->Gc K H b ys->∃x y,xs[i]?=some x/\ys[i]?=some y/\H'=upd H T (.tup [x,y]),
   λi H=>∃xs ys,Gc K H a xs/\Gc K H b ys/\(k_<=i\/ac_<=i)⟩
def b3t{w:x5!}{K:xB!}{jm:bM!}{n1:Nat}{tp:Pos}{a b TI TO:xz!}(D:ZipApart z TI TO i1 i2 a b):
  Ti P w K fu_ (DY K a b) [z,TI,TO,i1,i2] z (λi h=>IsZip h z TI TO .none/\IsPair h TI (.ref i1) (.ref i2)/\(∃p q,IsPair h TO p q)/\h.IsTupleIter i1 a i/\h.IsTupleIter i2 b i) where
 mem:=by simp
 obj:=λi h st c hc=>by
  obtain⟨s1,s2,⟨p,q,s3⟩,⟨o4,s4,c4,d4⟩,⟨o5,s5,c5,d5⟩⟩:=st;simp only[HQ,JI,LB]at hc;obtain rfl|rfl|rfl|rfl|rfl:=hc
  .exact⟨_,s1,oN!⟩
  .exact⟨_,s2,oN!⟩
  .exact⟨_,s3,oN!⟩
  .exact⟨o4,s4,λv y=>by rw[d4]at y;cases y⟩
  .exact⟨o5,s5,λv y=>by rw[d5]at y;cases y⟩
 keep:=λi h h' st k=>by
  obtain⟨s1,s2,⟨p,q,s3⟩,⟨o4,s4,r4⟩,⟨o5,s5,r5⟩⟩:=st;exact⟨k z d_ _ s1,k TI d_ _ s2,⟨p,q,k TO d_ _ s3⟩,⟨o4,k i1 d_ _ s4,r4⟩,⟨o5,k i2 d_ _ s5,r5⟩⟩
 item:=by
  intro X hP hw hK hc i J s Z H E I hf st hg;subst hP hw hK;obtain⟨xs,ys,x,y,qa,qb,O,hy⟩:=hg;obtain⟨s1,s2,⟨p,q,s3⟩,s4,s5⟩:=st;obtain⟨ia,ra,ta,za⟩:=I.tuple qa;obtain⟨ib,rb,tb,zb⟩:=I.tuple qb;obtain⟨u,hu,ru⟩:=ra.get O;obtain⟨v,hv,rv⟩:=rb.get hy;refine a9i D s1 s2 s3 s4 s5 ta tb (x:=u) (y:=v) r3! i8_ λh' a1 a2 a3 a4 a5 a6=>?_;refine⟨_,rfl,wpAny_letOwnedTupleGo_zip (s:=mj_) a1 λY b1 bm=>?_⟩;have p8:Heap.SameBut z h' Y:=bm;have neT:∀c o,s.heap.get? c=some o->q_≠c:=λc o e=>OT cU!;have fz:=hf z d_;have fO:=hf TO d_;have f1:=hf i1 d_;have f2:=hf i2 d_;have I1:Inv X J Z H {s with heap:=Y,toks:=s.toks}:=by
   have pj:∀(c:xz!),c∈fv_->H c=none:=λc hc=>by
    simp only[HQ,JI,LB]at hc;obtain rfl|rfl|rfl|rfl:=hc
    .exact fz.1
    .exact fO.1
    .exact f1.1
    .exact f2.1
   have kp:∀c o,c∉fv_->s.heap.get? c=some o->Y.get? c=some o:=λc o hc e=>by
    simp only[HQ,JI,LB,OX]at hc;exact p8.extBut _ _ hc.1 (a6 c o hc.1 hc.2.1 hc.2.2.1 hc.2.2.2 e)
   refine I.step (g':=s.gens) (d':=s.drawn) (ch:=fv_) ht! oN_ oO! ii_ oO_ ij! ij_ oP! ik! ht_ I.bare
   .simp only[HQ,JI,LB]at hc;obtain rfl|rfl|rfl|rfl:=hc
    .exact xR!
    .exact xR_
    .exact xS!
    .exact xT!
   .show"!b"
   .refine(oQ!).stay oQ_ oR! λ_ _ e'=>e';have hn:=pj d hm;obtain rfl|hd:=hd
    .rw[hn]at e;cases e
    .rw[hn]at hd;cases hd
  have sy:H q_=none:=I.hok.fresh x_;have eT:Y.get? q_=some {cls:=.type "tuple",data:=.seq #[u,v]}:=p8.extBut _ _ (neT z _ s1) a5;have I2:Inv X J Z (upd H s.heap.objs.size (.tup [x,y])) {s with heap:=Y,toks:=s.toks}:=by
   have ne:∀c o,H c=some o->c≠q_:=λc o e=>cJ e sy;have Y7:∀p∈X.pn++J,p.1≠q_:=λp hp=>JK rW!;refine Inv.step (s:={s with heap:=Y,toks:=s.toks}) (g':=s.gens) (d':=s.drawn) (t':=s.toks) (h':=Y) (ch:=[q_]) I1 ht! xV! xV_ xW! xW_
    (xY!) xX_ xZ! nD_ ht_ I1.bare
   .have e:c=q_:=by simpa using hc
    subst e;exact⟨.inr I.sz,OT I.lt,λx c h=>(λz=>by obtain⟨v,o,ho,_⟩:=I.cell x c h;rw[z]at ho;exact absurd ie_ dF_),Y7⟩
   .rw[nE!];exact n
   .by_cases hb:c=q_
    .show"!x";exact⟨by show 2<=sizeLine;rw[JY];decide,[u,v],.cons ru (.cons rv .nil),⟨_,eT,rfl,_,rfl⟩⟩
    .rw[bC hb]at e;exact(xZ_).stay nE_ x0! λd xs q=>by rw[oU!];exact q
  refine⟨dd!,_,I2,rfl,⟨_,rfl,sy,λgh YX j8 s9=>⟨x,y,?_,?_,rfl⟩⟩,⟨b1,p8.extBut _ _ D.TIz (a6 TI _ D.TIz D.TITO D.TIi1 D.TIi2 s2),⟨u,v,p8.extBut _ _ D.TOz a2⟩,cE a3 p8.extBut D.i1z,cE a4 p8.extBut D.i2z⟩,kv!⟩
  .rw[I.tuple_inj j8 qa];exact O
  .rw[I.tuple_inj s9 qb];exact hy
  .have Y8:=(hf c hc).1;have bu:∃o,s.heap.get? c=some o:=by
    obtain⟨o4,t4,_⟩:=s4;obtain⟨o5,t5,_⟩:=s5;simp only[HQ,JI,LB]at hc;obtain rfl|rfl|rfl|rfl|rfl:=hc
    .exact⟨_,s1⟩
    .exact⟨_,s2⟩
    .exact⟨_,s3⟩
    .exact⟨_,t4⟩
    .exact⟨_,t5⟩
   obtain⟨o,ho⟩:=bu;rw[bC (HY (neT c o ho))];exact Y8
 done:=by
  intro X hP hw hK hc i J s Z H E I hf st hg;subst hP hw hK;obtain⟨xs,ys,qa,qb,Y9⟩:=hg;obtain⟨s1,s2,⟨p,q,s3⟩,s4,s5⟩:=st;obtain⟨ia,ra,ta,za⟩:=I.tuple qa;obtain⟨ib,rb,tb,zb⟩:=I.tuple qb;have l1:=ra.length;have l2:=rb.length;refine yF bz_ D s1 s2 s3 s4 s5 ta tb (by
   obtain h|h:=Y9
   .left;simp;omega
   .right;simp;omega) λY a6=>k!
  have fz:=hf z d_;have fO:=hf TO d_;have f1:=hf i1 d_;have f2:=hf i2 d_;have pj:∀(c:xz!),c∈fv_->H c=none:=λc hc=>by
   simp only[HQ,JI,LB]at hc;obtain rfl|rfl|rfl|rfl:=hc
   .exact fz.1
   .exact fO.1
   .exact f1.1
   .exact f2.1
  have kp:∀c o,c∉fv_->s.heap.get? c=some o->Y.get? c=some o:=λc o hc e=>by
   simp only[HQ,JI,LB,OX]at hc;exact a6 c o hc.1 hc.2.1 hc.2.2.1 hc.2.2.2 e
  refine I.step (g':=s.gens) (d':=s.drawn) (t':=s.toks) (ch:=fv_) ht! oN_ oO! ii_ oO_ ij! ij_ oP! ik! ht_ I.bare
  .simp only[HQ,JI,LB]at hc;obtain rfl|rfl|rfl|rfl:=hc
   .exact xR!
   .exact xR_
   .exact xS!
   .exact xT!
  .show"!b"
  .refine(oQ!).stay oQ_ oR! λ_ _ e'=>e';have hn:=pj d hm;obtain rfl|hd:=hd
   .rw[hn]at e;cases e
   .rw[hn]at hd;cases hd
 self:=λA i s Q E st h=>wpAny_pyIter_zip st.1 h
section
variable{X:Cx}{own:List Nat}{e a b c o i tg:Expr}{es jm:List Expr}{pos p2 p tp:Pos}{f fa fb fc fe:Ad->Option D}{n1:Nat}
def c3c{ta:TA}(hg:Gl X "zip")(hm:x1_)(hv:x2!)(ha:PA X ak_ ta)(hs:x2_:=by rfl)(az:x3!:=by rfl):
  PI X fu_ x3_ (λZ H R=>ta Z H λvs H1=>∃x y xs ys,vs=[.ref x,.ref y]/\Gc X.K H1 x xs/\Gc X.K H1 y ys/\R (DY X.K x y) H1):=by
 intro J s Z H R I h;refine Call_ (mG I hg hm hv (LM mp_ hs az));obtain⟨x,y,xs,ys,rfl,qx,qy,q⟩:=q1;obtain⟨u,u',rfl,ru,ap⟩:=a4o r1;cases ru;cases ap;obtain⟨ia,ra,VC,za⟩:=I1.tuple qx;obtain⟨ib,rb,VD,zb⟩:=I1.tuple qy;have lx:x<E!:=by obtain⟨ob,eo,_⟩:=VC;exact IY eo
 have ly:y<E!:=by obtain⟨ob,eo,_⟩:=VD;exact IY eo
 refine c1r VC VD λh' a1 a2 a3 a4 a5 a6=>?_;refine wpAny_pyIter_zip a1 ?_;have I2:Inv X J Z H1 {s1 with heap:=h',toks:=s1.toks}:=I1.kept (t':=s1.toks) a6;have D:ZipApart (E!+4) (E!+2) (E!+3) s1.heap.objs.size (E!+1) x y:=by
  constructor<;>(intro z;have z':@Eq Nat _ _:=z;have l1:@LT.lt Nat _ x _:=lx;have l2:@LT.lt Nat _ y _:=ly;omega)
 refine⟨_,_,_,DY X.K x y,H1,rfl,I2,b3t D,⟨a1,a2,⟨_,_,a3⟩,a4,a5⟩,kv!,q⟩;have nz:E!<=c:=by
  simp only[HQ,JI,LB]at hc;obtain rfl|rfl|rfl|rfl|rfl:=hc<;>omega
 exact I1.fpOk nz (I1.hok.fresh nz)
def Lb:List D->List D->List D
 |x::xs,y::ys=>.tup [x,y]::Lb xs ys
 |_,_=>[]
def AQ(fa fb:e!):Ad->Option aQ_:=λρ=>(fj_).bind λx=>(jS_).bind λy=>match x,y with|.tup xs,.tup ys=>some kw!|_,_=>none
def a4n:∀(xs ys:b!) (n:Nat) (d:D),kw![n]?=some d->∃x y,xs[n]?=some x/\ys[n]?=some y/\d=.tup [x,y]
 |[],_,n,d,h=>by simp[Lb]at h
 |_::_,[],n,d,h=>by simp[Lb]at h
 |x::xs,y::ys,0,d,h=>by
  simp[Lb]at h;exact⟨x,y,rfl,rfl,h.symm⟩
 |x::xs,y::ys,n+1,d,h=>by
  obtain⟨u,v,B,Y,h3⟩:=a4n xs ys n d (by simpa[Lb]using h);exact⟨u,v,h7!,by simpa using Y,h3⟩
def a4m:∀(xs ys:b!),k_<=(kw!).length\/ac_<=(kw!).length
 |[],ys=>.inl bY_
 |_::_,[]=>.inr bY_
 |x::xs,y::ys=>by
  obtain h|h:=a4m xs ys
  .left;simp[Lb];exact h
  .right;simp[Lb];exact h
def c4e{K:xB!}{G1:Hp}{es:b!}(qa:Gc K G1 x vs)(qb:Gc K G1 y ws)(ra:Ao K G1 ds vs)(rb:Ao K G1 es ws):Zi K (DY K x y) (Lb ds es) G1:=by
 intro n G' H' s1 s2;have j8:Gc K H' x vs:=cB s2 (cB s1 qa);have s9:Gc K H' y ws:=cB s2 (cB s1 qb);refine⟨el!,λhn=>⟨vs,ws,j8,s9,?_⟩⟩
 .obtain⟨u,v,B,Y,rfl⟩:=a4n ds es n d hd;obtain⟨v1,g1,r1⟩:=iN ra B;obtain⟨v2,g2,r2⟩:=iN rb Y;refine⟨⟨vs,ws,v1,v2,j8,s9,g1,g2⟩,λx' gw hy=>?_⟩;obtain⟨T,rfl,hT,hh⟩:=hy;obtain⟨x1,y1,e1,e2,rfl⟩:=hh vs ws j8 s9;rw[g1]at e1;rw[g2]at e2;cases e1;cases e2;exact⟨_,Ck.laid s2 hT,fV (s2.free hT) (Ao.cons (r1.mono s1) (Ao.cons (r2.mono s1) Ao.nil))⟩
 .rw[hn,<-aJ ra,<-aJ rb];exact a4m ds es
def c8z(hg:Gl X "zip")(hm:x1_)(hv:x2!)(ha:Z!)(hb:cG_)(hs:x2_:=by rfl)
  (bm:starEach [b] X.env=iH!::starEach [] X.env:=by rfl)(az:x3!:=by rfl):DI X own fu_ x3_ (AQ fa fb):=
 a7q (c3c hg hm hv (dY ha.ok (dY hb.ok gA bm) hs) hs az) λZ G H R ρ ds er e k=>by
  obtain⟨x,e1,e⟩:=HM.mp e;obtain⟨y,e2,e⟩:=HM.mp e;cases x with
  |tup xs=>
   cases y with
   |tup ys=>
    cases e;refine x6_;obtain⟨p,vs,rfl,q,rr⟩:=bT g8_;obtain⟨p',ws,rfl,q',bz⟩:=bT r2;exact⟨p,p',vs,ws,rfl,cB s2.sub q,cB s2.sub q',k _ G2 H2 dn_ (c4e q q' rr bz)⟩
   |_=>cases e
  |_=>cases e
end
def Eh:D->D->Option D:=Du Um λi j=>.int (i*j)
def rY{K:xB!}:Ip K mx! Eh:=c7v
def Bn:D->D->Option D:=Du oh_ λi j=>.int (i%j)
def eH{K:xB!}:Ip K my_ Bn:=c7w
def Ci:D->D->Option D:=Du wt! λi j=>.int (i / j)
def nH{K:xB!}:Ip K my! Ci:=c3q
def Gj:D->D->Option D:=Du wt_ λi j=>.int mz_
def c7s{K:xB!}:Ip K mA! Gj:=c7u
def Jk:D->D->Option D:=Cb λi j=>.bl mB!
def a5x{K:xB!}:Ip K mB_ Jk:=d1c
def Kd:D->D->Option D:=Cb λi j=>.bl mD_
def b8r{K:xB!}:Ip K mD! Kd:=d1e
def Od:D->D->Option D:=Cb λi j=>.bl mE_
def d1b{K:xB!}:Ip K mE! Od:=d1f
section
variable{X:Cx}{own:List Nat}{pos p2:Pos}
def lS:Gs X mC! x7!:=d0x.or b4s
def Ko:D->D->Option D
 |.int i,.int j=>some (.bl mC_)
 |.str x,.str y=>some (.bl (Ru x y))
 |_,_=>none
def lU{K:xB!}:Ip K x7! Ko:=by
 show"!/";unfold Ko at e;show"!6"
 .show"!^";exact .inl oW!
 .cases cG rx;cases cG ry;cases e;exact .inr oW!
 .cases e
def Lx:D->D->Option D
 |.int i,.int j=>some (.bl (!(i==j)))
 |.str x,.str y=>some (.bl (!(x==y)))
 |_,_=>none
def zJ{K:xB!}:Ip K GB Lx:=by
 show"!/";unfold Lx at e;show"!6"
 .show"!^";refine k!;rw[b3e];show"!q"
 .cases cG rx;cases cG ry;cases e;refine k!;rw[b3d];show"!q"
 .cases e
def iA{x:Str}{i:Int}(hm:∃t,X.mg x=some dD!)(hg:X!)(hd:H!:=by decide):DE X own c1! (fC by_):=by obtain⟨t,ht⟩:=hm;exact c5a hg ht hd
end
def cD{X:Cx}{scope sc:Scope}(h:X.env.scope=sc)(hd:∀y∈cg_,y.2=.free->(sc.names.lookup y.1=some .cell\/sc.names.lookup y.1=some .free)):
  ∀y∈cg_,y.2=.free->vI_:=λy hy hf=>by
 unfold Env.kindOf;rw[h];exact hd y hy hf
section
variable{X:Cx}{own:List Nat}{a b c:Expr}{pos p2:Pos}{fa fb fc:Ad->Option D}
def c0t{op ff:CmpOp}{r r':R2}{g g':a1_}(ho:ca_)(hg:eh_)(de:iN!)(sn:Ip X.K r' g')(ha:Z!)(hb:cG_)(hc:DE X own c fc)
  (hm:iN_:=by with_unfolding_all rfl):DT X own iO! (fT w6!):=
 xP (b7p ho de ha.ok hb.ok hc.ok hm) λZ G H Q ρ d er e k=>by
  have e:=kY e;obtain⟨x,e1,e⟩:=HM.mp e;obtain⟨y,e2,e⟩:=HM.mp e;obtain⟨z,e3,e⟩:=HM.mp e;refine w6_;have nv:=s1.trans g9!;cases z with
  |bl bb=>
   cases cW r3;refine w7_;cases bb with
   |true=>
    obtain⟨u,e4,e⟩:=HM.mp e;refine mM ⟨G3,ρ,u,er.grow nv,e4,λq G4 H4 s4 r4=>sn s4.sub w8! r4 e λv G5 H5 s5 r5=>?_⟩;cases cW r5;exact⟨d,rfl,k G5 H5 w8_⟩
   |false=>
    cases e;exact mN ⟨false,rfl,k G3 H3 nv⟩
  |_=>cases e
def b5w{x:Str}{bj:aS_}(hd:Uz X x bj)(hg:X!)(ha:Z!)(hm:behindInMarks .NotIn do_=false:=by rfl)(be:H!:=by decide):DT X own (.Compare a [.NotIn] [cH!] pos) (fT (Zb bj true fa)):=by
 show"#C";refine xP (t:=λZ H Q=>tD X.K own fa Z H λv H1=>∃y,v=.str y/\Q (!(Nq kvs en_).isSome) H1) xb_ λZ G H Q ρ d er e k=>?_
 .refine QY (dO xc! λv s1 ⟨y,H1,I1,r1,z,hz,q1⟩=>kQ I1 hg j2 ?_ be) hm;subst hz;refine wpAny_notIn_of (knd:=xd_) (k:=oF_) xe! US (yu _ I1.kIn).mapOf ?_;rw[<-(yw.val oF!).isSome_eq];exact JQ ⟨H1,I1.tok _,q1⟩
 .have e:=kY e;obtain⟨x,e1,e⟩:=HM.mp e;cases x with
  |str y=>
   cases e;refine fn!;cases cG r1;refine⟨y,rfl,?_⟩;have hb:(Nq kvs en_).isSome=(oE!).isSome:=by
    cases ht:bj.lookup y with
    |none=>rw[(hn y).mpr ht];rfl
    |some d=>obtain⟨v,hv,_⟩:=hs y d ht;rw[hv];rfl
   rw[hb];exact k G1 H1 s1
  |_=>cases e
end
def dD:bootBuiltins "len"=some sW_:=by decide+kernel
def c9p:bootBuiltins "abs"=some sR!:=by decide+kernel
def c9n:bootBuiltins "ord"=some sU!:=by decide+kernel
def b0y:bootBuiltins "all"=some wz_:=by decide+kernel
def cK:bootBuiltins "isinstance"=some ok!:=by decide+kernel
def c1s:bootBuiltins "int"=some bW!:=by decide+kernel
def b3l:bootBuiltins "bool"=some bW_:=by decide+kernel
def b0x:bootBuiltins "str"=some bX!:=by decide+kernel
def qY:bootBuiltins "tuple"=some bX_:=by decide+kernel
def b3k:bootBuiltins "list"=some d3!:=by decide+kernel
def c9m:bootBuiltins "zip"=some oL!:=by decide+kernel
def Fg(K:xB!)(mg:y_)(x:Str)(st:Stmt)(ps:p!):Prop:=∃hr fd,Ye K x x st hr fd/\Ex K fd ps []/\mg x=some bV_
def Cg(N:p!)(n:Nat)(q:aS!)(ds:b!):Option D:=if f_=n then(match q hk_ with|some (.rt d)=>some d|some (.nx _)=>some .non|none=>none)else none
def eE{K:xB!}{mg:y_}{st:Stmt}{ps:p!}{k:Nat}{hx:m_}{q:aS!}(h:x8!)(S:d6!)
  (hb:∀{hr:xz!} {af:x6!} {A:x9!} {outer:aw_} {s:xA!} {H:Hp} {E:XK},Ak k oX!->Yf (oX_).nox [] hx bT_ q):
  Ok P w K mg base R_ x ps (Cg N ps.length q):=by
 obtain⟨hr,fd,F,h1,m⟩:=h;refine⟨hr,fd,c9b F S (λaf A outer s H E L=>hb L) (λds d hl e=>?_),h1,m,F.kp⟩;unfold Cg at e;rw[IA hl]at e;show"!6"
 .cases e;left;assumption
 .cases e;right;exact⟨_,by assumption,rfl⟩
 .cases e
def CK:Const->Option D
 |.int i=>some by_
 |.str i=>some jM!
 |.bool i=>some (.bl i)
 |.none=>some .non
 |_=>none
mutual
noncomputable def Vk:Nat->Expr->Option D
 |0,_=>none
 |n+1,e=>match e with
  |.Constant c _ _=>CK c
  |.Tuple es _ _=>(oY_).bind λds=>if f_<=1000 then some dk_ else none
  |.List es _=>(oY_).bind λds=>if f_<=1000 then some cj! else none
  |_=>none
noncomputable def Vj:Nat->List Expr->Option aQ_
 |0,_=>none
 |n+1,[]=>some []
 |n+1,e::es=>(Vk n e).bind λd=>(oY_).bind λds=>some ed_
end
section
variable{X:Cx}{own:List Nat}
def b9p{n:Nat}(h:Vk n e=some d):starEach aO! X.env=e0_::starEach es X.env:=by
 cases n with
 |zero=>unfold Vk at h;cases h
 |succ n=>
  cases e<;>first|rfl|(simp[Vk]at h;done)
mutual
theorem fI:∀{n:Nat} {e:Expr} {d:D},Vk n e=some d->DE X own e (fC d)
 |0,e,d,h=>by unfold Vk at h;cases h
 |n+1,e,d,h=>by
  unfold Vk at h;split at h
  .unfold CK at h;split at h
   .cases h;exact aC
   .cases h;exact aU
   .cases h;exact fA
   .cases h;exact dM
   .cases h
  .obtain⟨ds,e1,e2⟩:=HM.mp h;split at e2
   .rename_i hl;cases e2;refine eW (dC (b0r e1)).ok λZ G H Q ρ d er e k=>?_;show"#E"
   .cases e2
  .obtain⟨ds,e1,e2⟩:=HM.mp h;split at e2
   .rename_i hl;cases e2;refine eW (pC (b0r e1)).ok λZ G H Q ρ d er e k=>?_;show"#E"
   .cases e2
  .cases h
theorem b0r:∀{n:Nat} {es:bM!} {ds:b!},Vj n es=some ds->DA X own es (λ_=>some ds)
 |0,e,d,h=>by unfold Vj at h;cases h
 |n+1,[],d,h=>by
  unfold Vj at h;cases h;exact aK
 |n+1,e::es,d,h=>by
  unfold Vj at h;obtain⟨d1,e1,h⟩:=HM.mp h;obtain⟨ds,e2,h⟩:=HM.mp h;cases h;exact c1f (aD (fI e1) (b0r e2) (b9p e1)).ok λZ G H Q ρ d er e k=>⟨G,ρ,_,er,e,k⟩
end
end
section
variable{P:x4!}{w:x5!}{K:xB!}{mg:Str->Option Value}{h:Heap}
def aV{st:Stmt}{ps:p!}{od an:a8_}{du:cc!}{kV:x6!}(X:fw_)(G:fx!)
  (a:ya_)(l:yb!)
  (c:yb_)(k:gT!)
  (b:yc!):Fg K mg x st ps:=
 ⟨f,_,kx_,oZ_,o0_⟩
def AX(K:xB!)(mg:y_)(x:Str)(st:Stmt)(ps:p!):Prop:=∃hr fd,Ye K x x st hr fd/\(∀us:List Value,ao!=T_->bindArgs fd db!=pure da!)/\mg x=some bV_
def c4w{st:Stmt}{ps:p!}{od an:a8_}{du:cc!}{kV:x6!}(X:fw_)(G:fx!)
  (a:ya_)(l:yb!)
  (c:yb_)(k:gT!)
  (b:yc!):AX K mg x st ps:=
 ⟨f,_,kx_,b _ _ _ _ _ _,o0_⟩
def qQ{i:Int}(X:fw_)(G:fx!)(a:W.nsIn K mainGlobals x=some (some (.int i tk))):∃tk,mg x=some (.int i tk):=⟨tk,o0_⟩
def fD(X:fw_)(G:fx!)(e:W.nsIn K mainGlobals x=some (some ae!)):mg x=some ae!:=W.mg_of X G e
def dW(X:fw_)(G:fx!)(e:W.nsIn K mainGlobals x=some none):mg x=none:=W.mg_none_of X G e
def a0c{K:xB!}{H:Hp}:∀(ns:z!),Ao K H o1_ cd!
 |[]=>Ao.nil
 |n::r=>Ao.cons Au.int (a0c r)
abbrev Uu:=Str×Tok×Addr
def AH(w:x5!)(r:Uu):DictEntry:=⟨PyData.keyHash w.params r.1,.str r.1 r.2.1,.ref r.2.2⟩
def Vn(K:xB!):List Uu->List cm_->Prop
 |[],[]=>True
 |r::rs,t::ts=>r.1=t.1/\(∀H,Au K H t.2 (V.ref r.2.2))/\Vn K rs ts
 |_,_=>False
abbrev Vz(rows:fy!):List (L2.Key×V):=rows.map λr=>(Sum.inr r.1,V.ref r.2.2)
abbrev Ua(rows:fy!):List zi_:=rows.map λr=>(Sum.inr r.1,Value.ref r.2.2)
def vP{P:x4!}:∀(rows:fy!),Pairs bv! yd_ o2!
 |[]=>.nil
 |r::rs=>.cons (mB P w r.1 r.2.1) rfl (vP rs)
def rN:∀{rows:fy!} {bj:aS_},Vn K rows bj->(Nq o3! en_=none↔bj.lookup y=none)/\∀d,bj.lookup y=some d->∃v,Nq o3! en_=some v/\∀H,Au K H d v
 |[],[],_=>⟨⟨gw!,gw!⟩,λd e=>by cases e⟩
 |[],t::ts,h=>h.elim
 |r::rs,[],h=>h.elim
 |r::rs,(x,d0)::ts,h=>by
  obtain⟨B,Y,h3⟩:=h;have ih:=rN (y:=y) h3;have j9:r.1=x:=B;unfold Nq at ih ⊢;simp only[HZ,LP,JP];by_cases e:y=x
  .subst e;have:decide ye_=true:=by simp[j9]
   simp only[this,LV];refine⟨⟨yf!,yf!⟩,λd z=>?_⟩;cases z;exact⟨_,rfl,Y⟩
  .have e1:decide ye_=false:=by
    rw[j9];exact IK λz=>e (yf_).symm
   have e2:(y==x)=false:=by simp[e]
   simp only[e1,e2];exact ih
def b2u:∀(rows:fy!),KV o3! o2!
 |[]=>.nil
 |r::rs=>.cons bN_ (b2u rs)
def c0l{X:Cx}{x:Str}{ad:xz!}{rows:fy!}{bj:aS_}{ep:Nat}(hw:X.w=w)(hK:X.K=K)(j2:X.mg=mg)(hm:mg x=some kV_)(hs:oD_=false)(hl:K.lookup ad=some {cls:=.type "dict",data:=.dict (yd_).toArray ep})
  (nd:fy_)(ht:Vn K rows bj):Uz X x bj:=by
 subst hw hK j2;refine⟨ad,Vz rows,Ua rows,hm,hs,λh hK=>⟨_,_,_,hK _ _ hl,yg_,rfl,?_,?_,?_⟩,b2u rows,λy=>(rN ht).1,λy d=>(rN ht).2 d⟩
 .intro e he;have cm:e∈rows.map (AH X.w):=by simpa using he
  obtain⟨r,L,rfl⟩:=IP.mp cm;exact⟨Sum.inr r.1,mB _ _ r.1 r.2.1,rfl⟩
 .simpa using vP (w:=X.w) (P:=X.prog) rows
 .have e:(o2!).map b_=(kz_).map (Sum.inr:Str->L2.Key):=by simp[Ua]
  rw[e];exact List.Pairwise.map _ (λa b lj z=>lj yf_) nd
def a5i{H:Hp}:∀(fs:aw!),Ao K H (fs.map D.fn) yh_
 |[]=>Ao.nil
 |n::r=>Ao.cons (by unfold Au;rfl) (a5i r)
def yY:∀(fs:aw!),Bc yh_ yi!
 |[]=>.nil
 |n::r=>.cons rfl (yY r)
def gZ{fs:aw!}{od:a8_}{n:Nat}{sl:cc!}(l:K.lookup a=some ⟨cK_,od,.seq (yi!).toArray n,sl⟩)(hz:bv_<=1000)(H:Hp):Au K H (.tup (fs.map D.fn)) ff_:=
 Au.tup (.inr ⟨_,_,n,l,rfl,rfl,by simpa using gF hz,by simpa using yY fs⟩) (a5i fs)
end
abbrev MK:=Option (Sum L2.Key (List L2.Key))
abbrev CI:Int:=0xFCA86420
section
variable{P:x4!}{w:x5!}{A:x9!}{E:Value->Shared->Prop}{s:xA!}
variable (P w)in
def Kn(h:Heap):MK->Value->Prop
 |none,v=>v=.none
 |some (.inl k),v=>Rg k v=true
 |some (.inr ks),v=>∃a,v=.ref a/\IsTupleKey bv! h ks a
variable (P w)in
nonrec def mkHash:MK->Int
 |none=>CI
 |some (.inl k)=>CL w k
 |some (.inr ks)=>tupleKeyHash bv! ks
def a6h(O:Kn P w h x v)(hy:Kn P w h y v):x=y:=by
 obtain _|x|x:=x<;>obtain _|y|y:=y
 .rfl
 .cases yj!;obtain⟨i,t,_,e⟩|⟨i,t,_,e⟩:=bP hy<;>exact nomatch e
 .cases yj!;obtain⟨a,e,_⟩:=hy;exact nomatch e
 .cases hx!;obtain⟨i,t,_,e⟩|⟨i,t,_,e⟩:=bP O<;>exact nomatch e
 .rw[(bv!).inj v x y O hy]
 .obtain⟨a,rfl,_⟩:=hy;obtain⟨i,t,_,e⟩|⟨i,t,_,e⟩:=bP O<;>exact nomatch e
 .cases hx!;obtain⟨a,e,_⟩:=O;exact nomatch e
 .obtain⟨a,rfl,_⟩:=O;obtain⟨i,t,_,e⟩|⟨i,t,_,e⟩:=bP hy<;>exact nomatch e
 .obtain⟨a,rfl,O⟩:=O;obtain⟨b,e,hy⟩:=hy;cases e;rw[O.inj hy]
def kC{h:Heap}{ks:o6!}(x:IsTupleKey bv! h ks a):∃its,h.IsTuple a its:=by obtain⟨o,its,n,B,Y,h3,_⟩:=x;exact⟨its,o,B,Y,n,h3⟩
def b9h{Q:er!}(hu:at!)(O:o6_)(hy:Kn P w s.heap y v)(h:Q (decide (x=y)) s):wpAny L_ A (eqBool u v) Q E s:=by
 obtain _|x|x:=x<;>obtain _|y|y:=y
 .cases hx_;cases hx!;rw[fz!]at h;exact SeqAt.EqAt.same _ _ _ _ _ h
 .cases hx_;rw[fz_]at h;obtain⟨i,t,rfl,rfl⟩|⟨i,t,rfl,rfl⟩:=bP hy
  .exact SeqAt.EqAt.none_int i t _ _ _ _ h
  .exact SeqAt.EqAt.none_str i t _ _ _ _ h
 .cases hx_;rw[fz_]at h;obtain⟨a,rfl,q⟩:=hy;obtain⟨its,q⟩:=kC q;exact SeqAt.EqAt.none_tuple q hu _ _ _ _ h
 .cases hx!;rw[fz_]at h;obtain⟨i,t,rfl,rfl⟩|⟨i,t,rfl,rfl⟩:=bP O
  .exact SeqAt.EqAt.int_none i t _ _ _ _ h
  .exact SeqAt.EqAt.str_none i t _ _ _ _ h
 .refine(bv!).eqBool O hy ?_;by_cases e:x=y
  .subst e;rw[fz!]at h ⊢;exact h
  .rw[IK cS!]at h;rw[IK e];exact h
 .rw[fz_]at h;obtain⟨a,rfl,q⟩:=hy;obtain⟨its,q⟩:=kC q;obtain⟨i,t,rfl,rfl⟩|⟨i,t,rfl,rfl⟩:=bP O
  .exact SeqAt.EqAt.int_tuple i t q hu _ _ _ _ h
  .exact SeqAt.EqAt.str_tuple i t q hu _ _ _ _ h
 .cases hx!;rw[fz_]at h;show"#4";obtain⟨its,q⟩:=kC q;exact SeqAt.EqAt.tuple_none q hu _ _ _ _ h
 .rw[fz_]at h;obtain⟨a,rfl,q⟩:=O;obtain⟨its,q⟩:=kC q;obtain⟨i,t,rfl,rfl⟩|⟨i,t,rfl,rfl⟩:=bP hy
  .exact SeqAt.EqAt.tuple_int i t q hu _ _ _ _ h
  .exact SeqAt.EqAt.tuple_str i t q hu _ _ _ _ h
 .show"#4";obtain⟨b,rfl,q2⟩:=hy;refine wpAny_eqBool_tuple hu q q2 ?_;by_cases e:x=y
  .subst e;rw[fz!]at h ⊢;exact h
  .rw[IK cS!]at h;rw[IK e];exact h
def a6g{Q:er!}(O:o6_)(h:Q true s):wpAny L_ A (eqIsQuiet 8 u) Q E s:=by
 obtain _|x|x:=x
 .cases hx_;rw[eqIsQuiet_byValue _ rfl];exact HN h
 .rw[eqIsQuiet_byValue _ ((bv!).byValue x u O)];exact HN h
 .show"#4";exact wpAny_eqIsQuiet_tuple q h
def uP{Q:Int->Shared->Prop}(hu:at!)(O:o6_)(h:∀tk,Q (mkHash P w x) {s with toks:=tk}):wpAny L_ A (pyHash u) Q E s:=by
 obtain _|x|x:=x
 .cases hx_;unfold pyHash;have hv:[dD_].any Value.onHeap=false:=rfl;refine HL ?_;rw[cRoomFor,HR (by rw[hv];exact IR)];refine HN ?_;have hT:s.TypeIs .none "NoneType":=rfl;refine HL ym_;rw[HR (show¬(some (Value.builtin "NoneType.__hash__")==some Value.none)=true by rw[beq_builtin_none];exact IR)];refine HL ym_;show wpAny _ _ (callSpecialIfBoundUnlessNone? Value.none (Str.ofString "__hash__") _>>=_) _ _ _;refine HL (wpAny_callSpecialIfBoundUnlessNone?_slot hT NU (JO NU hT PySem.F.entry_NoneType_hash ?_ (PySem.F.args_NoneType_hash_1 _)));refine wpAny_ret_mkInt ?_;exact HN (h _)
 .exact(bv!).pyHash O (h _)
 .show"#4";exact wpAny_pyHash_tuple hu q (h _)
end
def Mr(ks:bd_)(k:MK):Option Nat:=ks.findIdx? λx=>decide (x=k)
def Hr(ks:bd_)(k:MK)(i:Nat):Bool:=decide (ks[i]?=some k)
def qK{ks:bd_}{j:Nat}(h:yo_):ks[j]?=some k/\∀i,i<j->ks[i]?≠some k:=by obtain⟨B,Y,h3⟩:=OK.mp h;refine⟨by rw[IM B];exact congrArg some (KD Y),λi hi e=>?_⟩;have:=h3 i hi;obtain⟨q1,q2⟩:=IJ.mp e;rw[q2]at this;simp at this
def a6w{ks:bd_}(h:Mr ks k=none)(i:Nat):ks[i]?≠some k:=λe=>by
 have:=List.findIdx?_eq_none_iff.mp h k (NW e);simp at this
def b0k(ks:bd_)(k:MK):(List.range kA_).find? dv_=Mr ks k:=by
 cases h:Mr ks k with
 |none=>
  rw[List.find?_eq_none];intro i hi z;exact a6w h i (KD z)
 |some j=>
  obtain⟨B,Y⟩:=qK h;rw[List.find?_range_eq_some];refine⟨by unfold Hr;exact IT B,NY.mpr (fo!).1,fA_⟩;unfold Hr;rw[IK (Y i hi)];rfl
section
variable{P:x4!}{w:x5!}{A:x9!}{E:Value->Shared->Prop}{s:xA!}
variable (P w)in
structure Oo(h:Heap)(es:bR_)(ks:bd_):Prop where
 len:es.size=kA_
 at_:∀(i:Nat) (e:DictEntry) (k:MK),es[i]?=some e->ks[i]?=some k->Kn P w h k e.key/\e.hash=mkHash P w k
 nd:hA_
def Oo.get{es:bR_}{ks:bd_}(x:kB!){i:Nat}{e:DictEntry}(q:es[i]?=some e):∃k,ks[i]?=some k/\Kn P w h k e.key/\e.hash=mkHash P w k:=by
 have hl:i<kA_:=by rw[<-x.len];exact(PD.mp q).1
 exact⟨ks[i],IM hl,x.at_ i e _ q (IM hl)⟩
def Oo.one{es:bR_}{ks:bd_}(x:kB!){i j:Nat}(B:Hr ks k i=true)(Y:Hr ks k j=true):i=j:=by have e1:=KD B;have e2:=KD Y;exact(List.getElem?_inj (IJ.mp e1).1 x.nd).mp q9!
abbrev plc(es:bR_)(h:Int):List Nat:=placesWithHash es.size (λi=>es[i]?.map (·.hash)) h
def a7n{es:bR_}{ks:bd_}(x:kB!)(k:MK):(kB_).find? dv_=Mr ks k:=by
 unfold plc placesWithHash;rw[List.find?_filter,<-b0k,x.len];congr 1;funext i;cases hp:Hr ks k i with
 |false=>simp
 |true=>
  have e1:=KD hp;have hl:i<es.size:=by rw[x.len];exact(IJ.mp e1).1
  obtain⟨k',q1,q2,q3⟩:=x.get (JJ hl);rw[e1]at q1;cases q1;simp[JJ hl,q3]
def b7u{es:bR_}{h:Int}{i:Nat}(hi:i∈plc es h):i<es.size:=by have:=(KM.mp hi).1;simpa using this
def c7f{es:bR_}{h:Int}:(plc es h).Nodup:=List.nodup_range.sublist QW
def a8m{o:Obj}{es:bR_}{ep:Nat}{ks:bd_}{Q:ys_}(hu:at!)(x:yt_)(hk:es!)
  (ho:yt!)(hd:yu!)(h:Q hB! s):wpAny L_ A yu_ Q E s:=by
 show"!j";generalize plc es dw!=av at hf hl ⊢;rw[<-hf]at h;unfold dictWalkPlain;refine HL (QP _ (λrest b s'=>s'=s/\b=fB!/\rest.find? dv_=av.find? dv_/\∀i∈rest,i<es.size) _ ?_ ?_ _ _ ⟨rfl,rfl,rfl,hl⟩)
 .rintro i rest b s' ⟨rfl,rfl,B,Y⟩;have ai:=Y i HV;have he:es[i]?=some es[i]:=JJ ai;obtain⟨k',q1,q2,q3⟩:=x.get he;have no:k'≠k->rest.find? dv_=av.find? dv_:=λb9=>by
   rw[<-B,LP];have:Hr ks k i=false:=by unfold Hr;rw[q1];exact IK yv_
   rw[this]
  show"#*";rw[he];show"#+";split
  .refine HL pa!;rw[F!];by_cases l8:k'=k
   .subst l8;rw[fz!];have hi:Hr ks k' i=true:=by unfold Hr;exact IT q1
    have:av.find? (Hr ks k')=some i:=by rw[<-B,LP,hi]
    rw[this]at h;exact HL (LJ (HN (HN h)))
   .rw[IK l8];exact HL (LJ (HN ⟨rfl,rfl,no l8,rs⟩))
  .rename_i hh;exact HN ⟨rfl,rfl,no yw_,rs⟩
 .rintro b s' ⟨rfl,rfl,B,_⟩;rw[<-B]at h;exact HN h
def a4q{Q:er!}(hk:es!)(hl:∀v∈av,∃k',Kn P w s.heap k' v)(h:Q false s):wpAny L_ A (tableMayTell u av) Q E s:=by
 unfold tableMayTell;split
 .exact HN h
 .refine HL (a6g hk ?_);rw[F!];refine HL (QP _ (λrest r s'=>s'=s/\r=fB!/\∀v∈rest,v∈av) _ ?_ ?_ _ _ ⟨rfl,rfl,λ_ z=>z⟩)
  .rintro v rest r s' ⟨rfl,rfl,L⟩;obtain⟨k',q⟩:=hl v (L v HV);refine HL (a6g q ?_);rw[F!];exact HN ⟨rfl,rfl,λy hy=>L y d7!⟩
  .rintro r s' ⟨rfl,rfl,_⟩;exact HN h
def c2a{ks:bd_}{i:Nat}(q1:yx_)(e:k'=k):Hr ks k i=true:=by unfold Hr;rw[<-e];exact IT q1
def b3r{ks:bd_}{i:Nat}{rest:m_}{ax:pb_}(hc:(ax=none/\(i::rest).find? dv_=Mr ks k)\/∃j,ax=some j/\Mr ks k=some j/\Hr ks k j=true/\j∉i::rest)(q1:yx_)(b9:¬k'=k):
  yy!\/∃j,ax=some j/\Mr ks k=some j/\Hr ks k j=true/\j∉rest:=by
 obtain⟨e,B⟩|⟨j,e,B,h4,h5⟩:=hc
 .refine .inl gO_;rw[<-B,LP];have:Hr ks k i=false:=by unfold Hr;rw[q1];exact IK yv_
  rw[this]
 .exact .inr ⟨j,e,B,h4,λz=>h5 (HP _ z)⟩
def sK{v:x6!}(q:Kn P w h k v):v.isStr z=decide (k=some hC!):=by
 by_cases e:k=some hC!
 .subst e;rw[fz!];obtain⟨i,t,e,_⟩|⟨i,t,e,rfl⟩:=bP q
  .cases e
  .cases e;simp[Value.isStr]
 .rw[IK e];cases v<;>first|rfl|skip
  rename_i y t;simp only[Value.isStr,KH,ne_eq];rintro rfl;exact e (a6h q (sI y t))
def c0m{es:bR_}{ks:bd_}(x:kB!)(z:Str):(es.findIdx? λe=>e.key.isStr z)=Mr ks (some hC!):=by
 cases hk:Mr ks (some hC!)with
 |none=>
  rw[Array.findIdx?_eq_none_iff];intro e he;obtain⟨i,hi⟩:=Array.mem_iff_getElem?.mp he;obtain⟨k',q1,q2,_⟩:=x.get hi;rw[sK q2];exact IK λ(e:k'=_)=>a6w hk i yz!
 |some j=>
  obtain⟨B,Y⟩:=qK hk;have hj:j<es.size:=by rw[x.len];exact(fo!).1
  rw[Array.findIdx?_eq_some_iff_getElem];refine⟨hj,?_,fA_⟩
  .obtain⟨k',q1,q2,_⟩:=x.get (JJ hj);rw[sK q2];rw[B]at q1;cases q1;exact IT rfl
  .obtain⟨k',q1,q2,_⟩:=x.get (JJ (Nat.lt_trans hi hj));rw[sK q2,IK (λ(e:k'=_)=>Y i hi yz!)];simp
def d0l{g:Prop}(h:∃T:Prop,(T->g)/\T):g:=let⟨_,f,k⟩:=h;f k
def qR{o:Obj}{es:bR_}{ep:Nat}{ks:bd_}{Q:ys_}(hu:at!)(x:yt_)(hk:es!)
  (ho:yt!)(hd:yu!)(h:Q hB! s):wpAny L_ A (dictFind d u dw!) Q E s:=by
 have bv:∀v∈(kB_).filterMap (λi=>es[i]?.map kC_),∃k',Kn P w s.heap k' v:=λv hv=>by
  obtain⟨i,_,e⟩:=MZ.mp hv;obtain⟨e',e1,rfl⟩:=IB.mp e;obtain⟨k',_,q,_⟩:=x.get e1;exact⟨k',q⟩
 have Y':¬(es.any λe=>e.key==u&&e.hash != mkHash P w k)=true:=λz=>by
  obtain⟨i,hi,z⟩:=Array.any_eq_true.mp z;rw[IZ,LW,bne_iff_ne]at z;obtain⟨k',_,q,q3⟩:=x.get (JJ hi);rw[z.1]at q;exact z.2 (by rw[q3,a6h q hk])
 show"!j";have p9:(kB_).Nodup:=c7f;have az:wpAny L_ A yu_ Q E s:=a8m hu x hk ho hd h;unfold dictFind;refine JS (HL (LU ho hd ?_));refine d0l ?_;apply Exists.intro;apply And.intro
 .intro tl;have yj:(∃a,u=.ref a)\/(∃z t,u=.str z t/\k=some hC!)\/(u=.none\/∃i t,u=.int i t):=by
   clear tl;obtain _|k|k:=k
   .exact .inr (.inr (.inl hk))
   .obtain⟨i,t,rfl,rfl⟩|⟨i,t,rfl,rfl⟩:=bP hk
    .exact .inr (.inr (.inr ⟨i,t,rfl⟩))
    .exact .inr (.inl ⟨i,t,rfl,rfl⟩)
   .obtain⟨a,rfl,_⟩:=hk;exact .inl ⟨a,rfl⟩
  obtain⟨a,ea⟩|⟨z,t,ea,VE⟩|ea|⟨i,t,ea⟩:=yj
  all_goals rw[ea]
  all_goals dsimp only
  rotate_left
  refine wpAny_ite_split (λfw=>?_) λ_=>?_
  .clear tl;unfold foundByValue;rw[c0m x z,<-VE];cases hj:Mr ks k with
   |none=>rw[hj]at h;exact HN h
   |some j=>
    obtain⟨B,_⟩:=qK hj;have ai:j<es.size:=by rw[x.len];exact(fo!).1
    obtain⟨k',q1,q2,_⟩:=x.get (JJ ai);rw[B]at q1;cases q1;show"#+";rw[JJ ai,<-ea];refine HL pa!;rw[F!,fz!];rw[hj]at h;exact HL (LJ (HN h))
  all_goals rw[<-ea]
  all_goals refine wpAny_ite_split (λ_=>az) λ_=>?_
  rotate_right
  rw[HR Y']
  all_goals refine wpAny_ite_split (λ_=>HL af!) λ_=>HL (a4q hk bv ?_)
  all_goals rw[F!]
  all_goals exact tl
 refine HL (QP _ (λrest b s'=>s'=s/\∃ax,b=(none,ax)/\(∀i∈rest,i<es.size)/\rest.Nodup/\
  (yy!\/∃j,ax=some j/\Mr ks k=some j/\Hr ks k j=true/\j∉rest)) _ ?_ ?_ _ _ ⟨rfl,none,rfl,hl,p9,.inl ⟨rfl,hf⟩⟩)
 rotate_left
 .rintro b s' ⟨rfl,ax,rfl,_,_,hc⟩;obtain⟨rfl,B⟩|⟨j,rfl,B,_⟩:=hc
  .rw[<-B]at h;exact HN h
  .rw[B]at h;exact HN h
 .rintro i rest b s' ⟨rfl,ax,rfl,Y,h3,hc⟩;have ai:=Y i HV;have he:es[i]?=some es[i]:=JJ ai;obtain⟨k',q1,q2,q3⟩:=x.get he;obtain⟨n1,n2⟩:=IN.mp h3;show"#*";have stay:=λb9=>b3r hc q1 b9;rw[he];show"#+";split
  .refine HL pa!;rw[F!];by_cases l8:k'=k
   rotate_left
   .rw[IK l8];simp only[JA,JM,Bool.false_and];exact HL (LJ (HN ⟨rfl,ax,rfl,rs,n2,stay l8⟩))
   .have hi:=c2a q1 l8;rw[IT l8];obtain⟨rfl,B⟩|⟨j,e,B,h4,h5⟩:=hc
    .have hL:=B;rw[LP,hi]at hL;simp only[JT,Option.isSome_none,JA,JM];refine HL hq_;split
     .rw[<-hL]at h;exact HN (HN h)
     .exact HN ⟨rfl,M!,rfl,rs,n2,.inr ⟨i,rfl,hL.symm,hi,n1⟩⟩
    .exact absurd (x.one hi h4) λz=>h5 (z▸HV)
  .rename_i hh;exact HN ⟨rfl,ax,rfl,rs,n2,stay yw_⟩
end
def Pd(h:Heap)(a:xz!)(es:ad_)(ep:Nat):Prop:=∃o,h.get? a=some o/\h9!/\o.data=.dict es.toArray ep
def Pd.typeIs{s:xA!}{a:xz!}{es:ad_}{ep:Nat}(D:hC_):s.TypeIs ae! "dict":=let⟨o,ho,hc,_⟩:=D;⟨o,ho,hc.1⟩
def Yz(es:ad_)(j:pb_)(h:Int)(u v:x6!):List DictEntry:=match j with
 |some j=>es.modify j λe=>{e with val:=v}
 |none=>es++[⟨h,u,v⟩]
def Yy(j:pb_)(ep:Nat):Nat:=match j with
 |some _=>ep
 |none=>ep+1
section
variable{P:x4!}{w:x5!}{A:x9!}{E:Value->Shared->Prop}{s:xA!}{a:xz!}{es:List DictEntry}{ep:Nat}{ks:List MK}{k:MK}{u v:x6!}
def d1t{Q:fu!}(hu:at!)(D:hC_)(x:kE!)(hk:es!)(h:∀tk,Q ((hB!).bind λj=>es[j]?.map (·.val)) {s with toks:=tk}):
  wpAny L_ A (dictGet a u) Q E s:=by
 obtain⟨o,ho,_,hd⟩:=D;unfold dictGet;refine JS pe_;have h:=h tk;cases hj:Mr ks k with
 |none=>rw[hj]at h;exact HN h
 |some j=>
  rw[hj]at h;refine HL (LU (s:=es_) ho hd af!);rw[MC];exact h
def uW{h:Heap}{f:Array DictEntry->Array DictEntry}{au:ad_}{o:Obj}(ho:h.get? a=some o)(hc:h9!)(hd:o.data=.dict es.toArray ep)(he:f es.toArray=au.toArray):
  Pd (h.update a (Obj.mapDict f)) a au ep/\Pd (h.update a (Obj.mapDictKeys f)) a au bI_:=
 ⟨⟨_,NZ _ ho (Obj.isFreed_of_dict (Obj.data_mapDict hd _)),hc.mapDict _,by rw[Obj.data_mapDict hd,he]⟩,⟨_,NZ _ ho (Obj.isFreed_of_dict (Obj.data_mapDictKeys hd _)),hc.mapDictKeys _,by rw[Obj.data_mapDictKeys hd,he]⟩⟩
def d1s{Q:cV!}(hu:at!)(D:hC_)(x:kE!)(hk:es!)(hl:pg_)
  (h:∀h' tk,Pd h' a (Yz es hB! dw! u v) (Yy hB! ep)->Heap.SameBut a s.heap h'->Q () {s with heap:=h',toks:=tk}):wpAny L_ A yF_ Q E s:=by
 obtain⟨o,ho,hc,hd⟩:=D;unfold dictSet;refine JS (HL (uP hu hk λtk=>?_));unfold dictSetHashed;refine JS (HL yD_);cases hj:Mr ks k with
 |none=>
  rw[hj]at h;exact HL (LJ (RI (s:=es_) ho hd (h _ tk (yG!).2 eo!) (hz:=kF_)))
 |some j=>
  rw[hj]at h;exact HL (LJ (HL (wpAny_updateDict (s:=es_) ho hd (wpAny_point (h _ tk (yG!).1 eo!)))))
def qV{Q:p_}(hu:at!)(D:hC_)(x:kE!)(hk:es!)(hl:pg_)
  (B:∀j e tk,Mr ks k=some j->es[j]?=some e->Q e.val {s with toks:=tk})
  (Y:∀h' tk,Mr ks k=none->Pd h' a (es++[⟨mkHash P w k,u,v⟩]) bI_->Heap.SameBut a s.heap h'->Q v {s with heap:=h',toks:=tk}):wpAny L_ A (dictSetDefault a u v) Q E s:=by
 obtain⟨o,ho,hc,hd⟩:=D;unfold dictSetDefault;refine JS pe_;cases hj:Mr ks k with
 |none=>
  exact HL (LJ (HL (RI (s:=es_) ho hd (HN (Y _ tk hj (uW ho hc hd d_).2 eo!)) (hz:=kF_))))
 |some j=>
  have ai:j<ai_:=by
   have:=(IJ.mp (qK hj).1).1;rw[<-x.len]at this;simpa using this
  refine HL yH!;rw[MC,IM ai];exact HL (LJ (HN (B j _ tk hj (IM ai))))
def c8t{j:Nat}{e:DictEntry}{Q:Option DictEntry->Shared->Prop}(hu:at!)(D:hC_)(x:kE!)(hk:es!)(hl:pg_)(hj:yo_)(he:es[j]?=some e)
  (h:∀h' tk,Pd h' a yH_ bI_->Heap.SameBut a s.heap h'->Q iw_ {s with heap:=h',toks:=tk}):wpAny L_ A yI! Q E s:=by
 obtain⟨o,ho,hc,hd⟩:=D;unfold Builtin.Dict.takeOut;refine JS pe_;rw[hj];refine HL yH!;rw[MC,he];have ai:j<ai_:=(IJ.mp he).1;refine HL (RI (s:=es_) ho hd (HN (h _ tk (uW ho hc hd ?_).2 eo!)) (hz:=kF_) (hf:=?_))
 .rw[Array.eraseIdxIfInBounds,dif_pos yI_];simp
 .rw[Array.eraseIdxIfInBounds];split
  .rw[Array.size_eraseIdx];omega
  .omega
end
def Ly:List D->Option (List L2.Key)
 |[]=>some []
 |.int i::r=>(Ly r).map (Sum.inl i::·)
 |.str x::r=>(Ly r).map (Sum.inr x::·)
 |_::_=>none
def Dc:D->Option MK
 |.non=>some none
 |.int i=>some (some (.inl (.inl i)))
 |.str x=>some (some (.inl (.inr x)))
 |.tup xs=>(Ly xs).map λks=>some (.inr ks)
 |_=>none
def zZ:∀{xs ys:b!} {ks:o6!},Ly xs=some ks->Ly ys=some ks->xs=ys
 |[],ys,ks,h,h'=>by
  cases h;cases ys with
  |nil=>rfl
  |cons y r=>cases y<;>simp[Ly]at h'
 |x::xs,[],ks,h,h'=>by
  cases h';cases x<;>simp[Ly]at h
 |x::xs,y::ys,ks,h,h'=>by
  cases x<;>simp only[Ly]at h<;>first|(cases h;done)|skip
  all_goals (obtain⟨l,e1,rfl⟩:=IB.mp h)
  all_goals (cases y<;>simp only[Ly]at h'<;>first|(cases h';done)|skip)
  all_goals (obtain⟨l',e2,e3⟩:=IB.mp h')
  all_goals (injection e3 with e4 e5)
  all_goals first|(injection e4;done)|skip
  all_goals (injection e4 with e4;subst e4 e5;rw[zZ e1 e2])
def b2o(h:aT!)(h':b0!):x=y:=by
 cases x<;>simp only[Dc]at h<;>first|(cases h;done)|skip
 all_goals (cases y<;>simp only[Dc]at h'<;>first|(cases h';done)|skip)
 all_goals first
  |rfl
  |(cases h;cases h';rfl)
  |(cases h;cases h')
  |(cases h;obtain⟨l,e1,e2⟩:=IB.mp h';cases e2)
  |(cases h';obtain⟨l,e1,e2⟩:=IB.mp h;cases e2)
  |(obtain⟨l,e1,e2⟩:=IB.mp h;obtain⟨l',e3,e4⟩:=IB.mp h';cases e2;cases e4;rw[zZ e1 e3])
def Cy(K:xB!)(G:Hp)(d:D)(u:x6!):Prop:=∃v,Au K G d v/\Bs v u
def Cy.mono{K:xB!}{G G':Hp}(e:kG_)(h:Cy K G d u):Cy K G' d u:=let⟨v,B,Y⟩:=h;⟨v,B.mono e,Y⟩
def a5g{K:xB!}{G:Hp}:∀{ds:b!} {vs:l_} {ks:o6!},Ao K G ds vs->Ly ds=some ks->vs=ks.map kV
 |[],vs,ks,r,e=>by cases cM r;cases e;rfl
 |d::ds,vs,ks,r,e=>by
  obtain⟨v,t,rfl,r1,r2⟩:=bN r;cases d<;>simp only[Ly]at e<;>first|(cases e;done)|skip
  all_goals (obtain⟨l,e1,rfl⟩:=IB.mp e;rw[a5g r2 e1])
  .cases bD r1;rfl
  .cases cG r1;rfl
def rR{X:Cx}{J:n_}{Z:St}{G H:Hp}{s:xA!}(I:d!)(sub:M_)(r:b0_)(e:bs!):Kn X.prog X.w s.heap k u:=by
 obtain⟨v,r,ru⟩:=r;cases d<;>simp only[Dc]at e<;>first|(cases e;done)|skip
 .cases e;cases eF r;exact ru
 .cases e;cases bD r;obtain⟨t,rfl⟩:=ru;exact a0a _ _
 .cases e;cases cG r;obtain⟨t,rfl⟩:=ru;exact sI _ _
 .obtain⟨ks,e1,rfl⟩:=IB.mp e;obtain⟨a,vs,rfl,q,rr⟩:=bT r;cases ru;show"#3";rw[a5g rr e1]at rv;exact⟨a,rfl,o,be!,n,B,Y,h3,by simpa using sJ rv⟩
open Classical in
nonrec def kget:List aF_->D->Option D
 |[],_=>none
 |(k,v)::r,d=>if k=d then some v else kget r d
open Classical in
def As:List aF_->D->D->List aF_
 |[],d,v=>[(d,v)]
 |(k,x)::r,d,v=>if k=d then(k,v)::r else(k,x)::As r d v
open Classical in
def Gq:List aF_->D->List aF_
 |[],_=>[]
 |(k,x)::r,d=>if k=d then r else(k,x)::Gq r d
section
variable{P:x4!}{w:x5!}{K:xB!}{G G':Hp}
variable (P w K G)in
def CZ(p:D×D)(e:DictEntry):Prop:=Cy K G p.1 e.key/\Cy K G p.2 e.val/\∃k,Dc p.1=some k/\e.hash=mkHash P w k
variable (P w K G)in
def Ia(kvs:h_)(es:ad_):Prop:=Paired (CZ P w K G) kvs es/\(fE_).Nodup
def Ia.mono{es:ad_}(e:kG_)(h:fF!):Ia P w K G' kvs es:=
 ⟨Paired.mapP h.1 λp q z=>⟨z.1.mono e,z.2.1.mono e,z.2.2⟩,h.2⟩
def Jc(kvs:h_):List MK:=kvs.map λp=>(Dc p.1).getD none
def gM{α β:Type}{F:cT!}:∀{l:N_} {m:dF!} {i:Nat} {a:α},Paired F l m->l[i]?=some a->∃b,m[i]?=some b/\F a b
 |_,_,_,_,.nil,e=>by simp at e
 |_,_,0,_,.cons r _,e=>by simp at e;subst e;exact lz_
 |_,_,i+1,a,.cons _ t,e=>by
  obtain⟨b,B,Y⟩:=gM (i:=i) (a:=a) t cS!;exact⟨b,h7!,Y⟩
def jH{α β:Type}{F:cT!}:∀{l l':N_} {m m':dF!},Paired F l m->Paired F l' m'->Paired F (l++l') (m++m')
 |_,_,_,_,.nil,h=>h
 |_,_,_,_,.cons r t,h=>.cons r (jH t h)
def nY{α β:Type}{F:cT!}{f:α->α}{g:β->β}:∀{l:N_} {m:dF!} (j:Nat),Paired F l m->(∀a b,l[j]?=some a->m[j]?=some b->F a b->F (f a) (g b))->Paired F (l.modify j f) (m.modify j g)
 |_,_,j,.nil,_=>by simpa using Paired.nil
 |_,_,0,.cons r t,h=>.cons (h _ _ rfl rfl r) t
 |_,_,j+1,.cons r t,h=>.cons r (nY j t λa b e1 e2=>h a b (by simpa using e1) (by simpa using e2))
def pS{α β:Type}{F:cT!}:∀{l:N_} {m:dF!} (j:Nat),Paired F l m->Paired F (l.eraseIdx j) (m.eraseIdx j)
 |_,_,_,.nil=>.nil
 |_,_,0,.cons _ t=>t
 |_,_,j+1,.cons r t=>.cons r (pS j t)
def Ia.ents{X:Cx}{J:n_}{Z:St}{H:Hp}{s:xA!}{es:ad_}(I:d!)(sub:M_)(h:Ia X.prog X.w X.K G kvs es):Oo X.prog X.w s.heap es.toArray fF_:=by
 obtain⟨B,Y⟩:=h;refine⟨by simp[Jc,NA B],λi e k he hk=>?_,?_⟩
 .rw[MC]at he;unfold Jc at hk;rw[JG]at hk;obtain⟨p,hp,rfl⟩:=IB.mp hk;obtain⟨e',cm,q1,_,k',q2,q3⟩:=gM B hp;rw[he]at cm;cases cm;rw[q2];exact⟨rR I sub q1 q2,q3⟩
 .have ke:∀{l:h_} {m:ad_},Paired (CZ X.prog X.w X.K G) l m->(et!).Nodup->(Jc l).Nodup:=by
   intro l m hp
   induction hp with
   |nil=>intro _;exact MY
   |@cons p e l m q t ih=>
    intro nd;rw[HZ,IN]at nd;show(_::Jc l).Nodup;rw[IN];refine⟨cL!,ih nd.2⟩;obtain⟨p',bo,e'⟩:=IP.mp z;obtain⟨_,_,k,hk,_⟩:=q;obtain⟨i,hi⟩:=ND.mp bo;obtain⟨_,_,_,_,k',cr,_⟩:=gM t hi;dsimp only at e';rw[hk,cr]at e';have:k'=k:=e';subst this;exact nd.1 (IP.mpr ⟨p',bo,b2o cr hk⟩)
  exact ke B Y
def Ia.look{kvs:h_}{es:ad_}(h:fF!)(hd:bs!):
  (Mr fF_ k=none/\kget kvs d=none/\(∀v,As kvs d v=kvs++[(d,v)])/\d∉kvs.map b_)\/∃j x e,Mr fF_ k=some j/\kvs[j]?=some dx_/\es[j]?=some e/\kget kvs d=some x/\Cy K G x e.val/\(∀v,As kvs d v=kvs.modify j λp=>(p.1,v))/\Gq kvs d=kvs.eraseIdx j:=by
 obtain⟨B,Y⟩:=h
 induction B with
 |nil=>exact .inl ⟨rfl,rfl,gw!,G_⟩
 |@cons p e l m q t ih=>
  obtain⟨y,z⟩:=p;rw[HZ,IN]at Y;obtain⟨_,q2,k',q3,_⟩:=q;have q3:Dc y=some k':=q3;have og:Jc ((y,z)::l)=k'::Jc l:=by unfold Jc;rw[HZ,q3];rfl
  by_cases hy:y=d
  .subst hy;rw[hd]at q3;cases q3;refine .inr ⟨0,z,e,?_,rfl,rfl,by simp[kget],q2,λv=>by simp[As,List.modify],by simp[Gq]⟩;rw[og];unfold Mr;rw[List.findIdx?_cons];simp
  .have b9:k'≠k:=λe=>hy (b2o q3 (e▸hd));have cr:Mr (Jc ((y,z)::l)) k=(Mr (Jc l) k).map (·+1):=by
    rw[og];unfold Mr;rw[List.findIdx?_cons];simp[b9]
   obtain⟨i1,i2,i3,i4⟩|⟨j,x,e',i1,i2,i3,i4,i5,i6,i7⟩:=ih Y.2
   .refine .inl ⟨yJ!,by simp[kget,hy,i2],λv=>by simp[As,hy,i3 v],?_⟩;rw[HZ,HQ,OX];exact⟨λe=>hy e.symm,i4⟩
   .exact .inr ⟨j+1,x,e',yJ!,by simpa using i2,by simpa using i3,by simp[kget,hy,i4],i5,λv=>by simp[As,hy,i6 v],by simp[Gq,hy,i7]⟩
def Ia.put{es:ad_}(h:fF!)(hd:bs!)(ru:Cy K G d u)(rv:Cy K G x v):Ia P w K G pj! (Yz es (Mr fF_ k) dw! u v):=by
 obtain⟨i1,i2,i3,i4⟩|⟨j,y,e',i1,i2,i3,i4,i5,i6,i7⟩:=h.look hd
 .rw[i1,i3];refine⟨jH h.1 (.cons ⟨ru,rv,k,hd,rfl⟩ .nil),?_⟩;rw[IW,JB];refine⟨h.2,G_,λa ha b hb e=>?_⟩;simp at hb;subst hb e;exact i4 ha
 .rw[i1,i6];refine⟨nY j h.1 λa b _ _ q=>⟨q.1,rv,q.2.2⟩,?_⟩;have:∀(l:h_) (j:Nat),(l.modify j λp=>(p.1,x)).map b_=l.map b_:=by
   intro l
   induction l with
   |nil=>intro j;simp
   |cons p l ih=>
    intro j;cases j with
    |zero=>simp
    |succ j=>simp[ih j]
  rw[this];exact h.2
def Ia.del{kvs:h_}{es:ad_}{j:Nat}(h:fF!):Ia P w K G (kvs.eraseIdx j) yH_:=by refine⟨pS j h.1,?_⟩;exact h.2.sublist ((List.eraseIdx_sublist kvs j).map _)
end
inductive Pe where
 |lst (xs:b!)|dct (kvs:h_) (ep:Nat)|obj (C:xz!) (fs:aS_)
abbrev Mh:=Addr->Option Pe
def Bd(M:Mh)(a:xz!)(c:Pe):Mh:=λb=>if b=a then some c else M b
def mup_same{M:Mh}{a:xz!}{c:Pe}:Bd M a c a=some c:=by unfold Bd;rw[j!]
def mup_ne{M:Mh}{a b:xz!}{c:Pe}(h:b≠a):Bd M a c b=M b:=by unfold Bd;rw[HR h]
nonrec def dE(a:xz!)(es:ad_)(ep:Nat):HO:=.ext λh=>Pd h a es ep/\dE_=false/\ai_<=big
def On(K:xB!)(G:Hp):List cm_->List dE!->Prop:=Paired λp q=>p.1=q.1/\Au K G p.2 q.2
section
variable(P:x4!)(w:x5!)(K:xB!)
def Hh(G H:Hp)(a:xz!):Pe->Prop
 |.lst xs=>∃vs,H a=some dl_/\Ao K G xs vs
 |.dct kvs ep=>∃es,H a=some kH!/\Ia P w K G kvs es
 |.obj C fs=>∃dx vs,H a=some yJ_/\On K G fs vs
structure MR(M:Mh)(G H:Hp):Prop where
 cell:∀a c,M a=some c->G a=none/\Hh P w K G H a c
end
structure XM(M:Mh)(G H:Hp)(M':Mh)(G' H':Hp):Prop where
 g:Bj G G'
 sub:Bj G' H'
 new:∀b,G' b≠none->G b≠none\/H b=none
 keep:∀b o,H b=some o->M b=none->H' b=some o
 dom:∀b,M' b≠none->M b≠none\/H b=none
 cells:∀b,M b≠none->M' b≠none
def XM.refl{M:Mh}{G H:Hp}(s:M_):XM M G H M G H:=⟨fh_,s,cF!,λ_ _ h _=>h,cF!,pj_⟩
def XM.free{M M':Mh}{G H G' H':Hp}{b:xz!}(x:kH_)(hM:M b=none)(h:H' b=none):H b=none:=by
 cases e:H b with
 |none=>rfl
 |some o=>rw[x.keep b o e hM]at h;cases h
section
variable{P:x4!}{w:x5!}{K:xB!}{M M1 M2:Mh}{G H G' H' G1 H1 G2 H2:Hp}
def On.mono{fs:aS_}{vs:eD_}(e:kG_)(h:On K G fs vs):On K G' fs vs:=Paired.mapP h λ_ _ z=>⟨z.1,z.2.mono e⟩
def Hh.mono{a:xz!}{c:Pe}(e:kG_)(h:yK!)(hH:H' a=H a):Hh P w K G' H' a c:=by
 cases c with
 |lst xs=>obtain⟨vs,B,Y⟩:=h;exact⟨vs,pk!,Y.mono e⟩
 |dct kvs ep=>obtain⟨es,B,Y⟩:=h;exact⟨es,pk!,Y.mono e⟩
 |obj C fs=>obtain⟨dx,vs,B,Y⟩:=h;exact⟨dx,vs,pk!,Y.mono e⟩
def Hh.has{a:xz!}{c:Pe}(h:yK!):H a≠none:=by
 cases c with
 |lst xs=>obtain⟨vs,B,Y⟩:=h;rw[B];simp
 |dct kvs ep=>obtain⟨es,B,Y⟩:=h;rw[B];simp
 |obj C fs=>obtain⟨dx,vs,B,Y⟩:=h;rw[B];simp
def MR.has(m:co_){c:xz!}(h:M c≠none):H c≠none:=by
 cases e:M c with
 |none=>exact absurd e h
 |some q=>exact(m.cell c q e).2.has
def XM.trans(a:XM M G H M1 G1 H1)(b:XM M1 G1 H1 M2 G2 H2)(m:yL!):XM M G H M2 G2 H2 where
 g:=a.g.trans b.g
 sub:=b.sub
 new:=λc h=>by
  obtain z|z:=b.new c h
  .exact a.new c z
  .cases hM:M c with
   |none=>exact .inr (a.free hM z)
   |some q=>exact absurd z (m.has (a.cells c yM!))
 keep:=λc o h hM=>by
  refine b.keep c o (a.keep c o h hM) ?_;cases e:M1 c with
  |none=>rfl
  |some q=>
   rcases a.dom c pk_ with z|z
   .exact absurd hM z
   .rw[h]at z;cases z
 dom:=λc h=>by
  obtain z|z:=b.dom c h
  .exact a.dom c z
  .cases hM:M c with
   |none=>exact .inr (a.free hM z)
   |some q=>exact .inl d_
 cells:=λc h=>b.cells c (a.cells c h)
def XM.ext(x:jO!):XM M G H M G' H':=⟨x.g,x.sub,x.new,λb o h _=>x.h b o h,cF!,pj_⟩
def MR.ext(m:co_)(x:jO!):MR P w K M G' H':=⟨λa c e=>by
 obtain⟨B,Y⟩:=m.cell a c e;have hn:H a≠none:=Y.has;refine yM_
 .cases q:G' a with
  |none=>rfl
  |some o=>
   rcases x.new a cg! with z|z
   .exact absurd B z
   .exact absurd z hn
 .cases q:H a with
  |none=>exact absurd q hn
  |some o=>exact x.h a o q⟩
end
structure Tl(P:x4!)(w:x5!)(K:xB!)(own:m_)(G H:Hp)(Z:St)(ρ:Ad)(M:Mh):Prop where
 or:OR K own G H Z ρ
 mr:MR P w K M G H
 dj:∀i∈own,∀p,Z[i]?=some cj_->M p=none
section
variable{P:x4!}{w:x5!}{K:xB!}{own:List Nat}{M M' M1 M2:Mh}{G H G' H' G1 H1 G2 H2:Hp}{Z:St}{ρ:Ad}
def OR.growM(h:ck!)(x:kH_)(dj:∀i∈own,∀p,Z[i]?=some cj_->M p=none):OR K own G' H' Z ρ where
 sub:=x.sub
 len:=h.len
 at_:=λi d q n=>let⟨v,B,Y⟩:=h.at_ i d q n;vY!
 own_:=λi hi=>by
  obtain⟨p,ds,vs,B,Y,h3,h4,h5⟩:=h.own_ i hi;refine⟨p,ds,vs,B,Y,x.keep _ _ h3 (dj i hi p Y),?_,h5.mono x.g⟩;cases q:G' p with
  |none=>rfl
  |some o=>
   rcases x.new p cg! with z|z
   .exact absurd h4 z
   .rw[h3]at z;cases z
 dis:=h.dis
def Tl.grow(s:hE!)(x:kH_)(m:yN!):Tl P w K own G' H' Z ρ M':=
 ⟨s.or.growM x s.dj,m,λi hi p e=>by
  cases q:M' p with
  |none=>rfl
  |some c=>
   obtain⟨p',ds,vs,B,Y,h3,h4,h5⟩:=s.or.own_ i hi;rw[e]at Y;cases Y;rcases x.dom p cg! with z|z
   .exact absurd (s.dj i hi p e) z
   .rw[h3]at z;cases z⟩
end
abbrev WE:=Ad->Mh->yN_->Prop
abbrev WA:=Ad->Mh->yO!->Prop
abbrev WT:=Ad->Mh->(Bool->Mh->Prop)->Prop
section
variable(P:x4!)(w:x5!)(K:xB!)(own:List Nat)
inductive BJ(f:WE)(Z:St)(H:Hp)(Q:VK):Prop
 |mk (G:Hp) (ρ:Ad) (M:Mh) (R:s_) (st:hE!) (e:hE_) (k:∀d M' v G' H',R d M'->XM M G H M' G' H'->MR P w K M' G' H'->Au K G' d v->Q v H'):BJ f Z H Q
inductive FX(f:WA)(Z:St)(H:Hp)(Q:cZ!):Prop
 |mk (G:Hp) (ρ:Ad) (M:Mh) (R:pl!) (st:hE!) (e:hE_) (k:∀d M' v G' H',R d M'->XM M G H M' G' H'->MR P w K M' G' H'->Ao K G' d v->Q v H'):FX f Z H Q
inductive Zk(f:WT)(Z:St)(H:Hp)(Q:dI!):Prop
 |mk (G:Hp) (ρ:Ad) (M:Mh) (R:fG!) (st:hE!) (e:hE_) (k:∀d M' G' H',R d M'->XM M G H M' G' H'->MR P w K M' G' H'->Q d H'):Zk f Z H Q
end
structure ME(X:Cx)(own:m_)(e:Expr)(f:WE):Prop where
 ok:PE X e (BJ X.prog X.w X.K own f)
structure MA(X:Cx)(own:m_)(es:bM!)(f:WA):Prop where
 ok:PA X es (FX X.prog X.w X.K own f)
structure MT(X:Cx)(own:m_)(e:Expr)(f:WT):Prop where
 ok:PT X e yO_
structure MW(X:Cx)(own:m_)(e:Expr)(f:WT):Prop where
 ok:PW X e yO_
nonrec def wl(f:e!):WE:=λρ M R=>match f ρ with|some d=>R d M|none=>False
def Da(f:ad!):WT:=λρ M R=>match f ρ with|some d=>R d M|none=>False
section
variable{X:Cx}{own:List Nat}{e a b c:Expr}{es rest:List Expr}{pos:Pos}{f fa fb fc:WE}{fs:WA}{ft fu:WT}{g:Ad->Option D}{gs:Ad->Option (List D)}{gt:Ad->Option Bool}
def eS{t:TE}(h:is!)(hw:∀Z G H Q ρ M R,Tl X.prog X.w X.K own G H Z ρ M->f ρ M R->(∀d M' v G' H',R d M'->XM M G H M' G' H'->MR X.prog X.w X.K M' G' H'->Au X.K G' d v->Q v H')->t Z H Q):ME X own e f:=
 yP!
def c6g{t:TA}(h:gz!)(hw:∀Z G H Q ρ M R,Tl X.prog X.w X.K own G H Z ρ M->fs ρ M R->(∀d M' v G' H',R d M'->XM M G H M' G' H'->MR X.prog X.w X.K M' G' H'->Ao X.K G' d v->Q v H')->t Z H Q):MA X own es fs:=
 ⟨λp J s Z H Q I ⟨G,ρ,M,R,st,e,k⟩=>h p J s Z H Q I pl_⟩
def b2m{t:TT}(h:PT X e t)(hw:yP_):MT X own e ft:=
 yP!
def c6b{t:TT}(h:PW X e t)(hw:yP_):MW X own e ft:=
 ⟨λwh J s Z H Q I ⟨G,ρ,M,R,st,e,k⟩=>h wh J s Z H Q I pl_⟩
def c1w{ρ:Ad}{M:Mh}{R:s_}(h:wl g ρ M R):∃d,g ρ=some d/\R d M:=by
 unfold wl at h;split at h
 .exact yQ!
 .exact h.elim
def b6f{ρ:Ad}{M:Mh}{R:fG!}(h:Da gt ρ M R):∃d,gt ρ=some d/\R d M:=by
 unfold Da at h;split at h
 .exact yQ!
 .exact h.elim
def aB(h:DE X own e g):ME X own e (wl g):=eS h.ok λZ G H Q ρ M R st e' k=>by
 obtain⟨d,e1,e2⟩:=c1w e';exact⟨G,ρ,d,st.or,e1,λv G' H' x r=>k d M v G' H' e2 (.ext x) pm_ r⟩
def eZ(h:DT X own e gt):MT X own e (Da gt):=b2m h.ok λZ G H Q ρ M R st e' k=>by
 obtain⟨d,e1,e2⟩:=b6f e';exact⟨G,ρ,d,st.or,e1,λG' H' x=>k d M G' H' e2 (.ext x) pm_⟩
def Af:WA:=λ_ M R=>R [] M
def Ab(f:WE)(fs:WA):WA:=λρ M R=>f ρ M λd M1=>fs ρ M1 λds M2=>R ed_ M2
def aO:MA X own [] Af:=c6g gA λZ G H Q ρ M R st e k=>k [] M [] G H e pn_ st.mr Ao.nil
def aE(h:b1!)(hs:hF!)(bv:aB_:=by rfl):MA X own aO! (Ab f fs):=
 c6g wj! λZ G H Q ρ M R st e' k=>⟨G,ρ,M,_,st,e',λd M1 v G1 H1 r1 x1 m1 q1=>⟨G1,ρ,M1,_,st.grow x1 m1,r1,λds M2 vs G2 H2 r2 x2 m2 q2=>
  k _ M2 _ G2 H2 r2 cL_ m2 (Ao.cons b1_ q2)⟩⟩
def Yj(P:x4!)(w:x5!)(K:xB!)(r:R2)(g:bs_):Prop:=∀{x y:V} {dx dy d:D} {M:Mh} {G H:Hp} {Q:VK},Bj G H->MR P w K M G H->Au K G dx x->Au K G dy y->g M dx dy=some d->jS!->r x y H Q
def Ip.m{P:x4!}{w:x5!}{K:xB!}{r:R2}{g:a1_}(h:Ip K r g):Yj P w K r (λ_=>g):=λs _ rx ry e k=>h s rx ry e k
nonrec def w2(g:bs_)(fa fb:WE):WE:=λρ M R=>fa ρ M λx M1=>fb ρ M1 λy M2=>match g M2 x y with|some d=>R d M2|none=>False
def c2b{r:R2}{gm:bs_}(hg:hF_){Z:St}{G H:Hp}{Q:VK}{ρ:Ad}{M:Mh}{R:s_}(st:yS!)(e:w2 gm fa fb ρ M R)
  (k:∀d M' v G' H',R d M'->XM M G H M' G' H'->MR X.prog X.w X.K M' G' H'->Au X.K G' d v->Q v H'):BD r (BJ X.prog X.w X.K own fa) (BJ X.prog X.w X.K own fb) Z H Q:=
 ⟨G,ρ,M,_,st,e,λx M1 u G1 H1 r1 x1 m1 q1=>⟨G1,ρ,M1,_,st.grow x1 m1,r1,λy M2 v G2 H2 r2 x2 m2 q2=>by
  have r2:(match gm M2 x y with|some d=>R d M2|none=>False):=r2;split at r2
  .rename_i d hd;exact hg x2.sub m2 b1_ q2 hd λz G3 H3 x3 q3=>k d M2 z G3 H3 r2 ((cL_).trans (.ext x3) m2) (m2.ext x3) q3
  .exact r2.elim⟩⟩
def b2p{op:Operator}{r:R2}{gm:bs_}(ho:mt_)(hg:hF_)(ha:av_)(hb:cM!):ME X own mu! kI!:=
 eS v9! λZ G H Q ρ M R st e k=>c2b hg st e k
def kP{op:CmpOp}{r:R2}{gm:bs_}(ho:ca_)(hg:hF_)(ha:av_)(hb:cM!)(hm:dK_):ME X own dL! kI!:=
 eS v9_ λZ G H Q ρ M R st e k=>c2b hg st e k
def bW{r:R2}{gm:bs_}(L:Wu X r)(hg:hF_)(ha:av_)(hb:cM!)(hs:Qb b):ME X own nk! kI!:=
 eS wa! λZ G H Q ρ M R st e k=>c2b hg st e k
nonrec def wT(f:WE):WT:=λρ M R=>f ρ M λd M1=>match d with|.bl b=>R b M1|_=>False
def dB{op:CmpOp}{r:R2}{gm:bs_}(ho:ca_)(hg:hF_)(ha:av_)(hb:cM!)(hm:dK_):MT X own dL! (wT kI!):=
 b2m wa_ λZ G H Q ρ M R st e k=>c2b (own:=own) (Q:=wb!) hg st e λd M' v G' H' r' x' m' q'=>by
  cases d<;>first|exact r'.elim|skip
  cases cW q';exact yT_
def fP(h:b1!)(he:is_:=by intro _;rfl):MT X own e (wT f):=
 b2m (b7m h.ok he) λZ G H Q ρ M R st e k=>⟨G,ρ,M,_,st,e,λd M' v G' H' r' x' m' q'=>by
  cases d<;>first|exact r'.elim|skip
  cases cW q';exact yT_⟩
def Fo(ft fu:WT):WT:=λρ M R=>ft ρ M λb M1=>if b then fu ρ M1 R else R false M1
def Wk(ft fu:WT):WT:=λρ M R=>ft ρ M λb M1=>if b then R true M1 else fu ρ M1 R
def Lj(ft:WT):WT:=λρ M R=>ft ρ M λb M1=>R (!b) M1
def kL(h:hG_):MW X own l6! ft:=wc_
def a2e(h:hG_):MW X own l6_ ft:=wd!
def oT(ha:hG_)(hb:MW X own eL! fu):MW X own eL_ (Fo ft fu):=
 c6b wd_ λZ G H Q ρ M R st e k=>⟨G,ρ,M,_,st,e,λx M1 G1 H1 r1 x1 m1=>by
  cases x with
  |true=>exact mM yU!
  |false=>exact mN yU_⟩
def b2l(ha:hG_)(hb:MW X own eM! fu):MW X own eM_ (Wk ft fu):=
 c6b we_ λZ G H Q ρ M R st e k=>⟨G,ρ,M,_,st,e,λx M1 G1 H1 r1 x1 m1=>by
  cases x with
  |false=>exact mN yU!
  |true=>exact mM yU_⟩
def wH(h:MW X own e ft):MT X own e ft:=⟨h.ok.pt⟩
def oU(h:hG_):MT X own eN! (Lj ft):=
 b2m (b7o h.ok) λZ G H Q ρ M R st e k=>⟨G,ρ,M,_,st,e,λx M1 G1 H1 r1 x1 m1=>k _ M1 G1 H1 r1 x1 m1⟩
def Jw(fa fb:WE):WE:=λρ M R=>wT fa ρ M λb M1=>if b then fb ρ M1 R else R X_ M1
def Sq(fa fb:WE):WE:=λρ M R=>wT fa ρ M λb M1=>if b then R C! M1 else fb ρ M1 R
def Wz(fa:WE):WE:=λρ M R=>wT fa ρ M λb M1=>R (.bl (!b)) M1
def sE{op:BoolOp}(h:av_):ME X own l7! fa:=wf!
def wO(ha:av_)(hb:ME X own eL! fb):ME X own eL_ (Jw fa fb):=
 eS wf_ λZ G H Q ρ M R st e k=>⟨G,ρ,M,_,st,e,λd M1 v G1 H1 r1 x1 m1 q1=>by
  cases d<;>first|exact r1.elim|skip
  rename_i x;cases cW q1;refine jV!;cases x with
  |true=>exact mM kJ_
  |false=>exact mN yW_⟩
def c6e(ha:av_)(hb:ME X own eM! fb):ME X own eM_ (Sq fa fb):=
 eS wh_ λZ G H Q ρ M R st e k=>⟨G,ρ,M,_,st,e,λd M1 v G1 H1 r1 x1 m1 q1=>by
  cases d<;>first|exact r1.elim|skip
  rename_i x;cases cW q1;refine jV!;cases x with
  |false=>exact mN kJ_
  |true=>exact mM yW_⟩
def c8b(ha:av_):ME X own eN! (Wz fa):=
 eS (b8g ha.ok) λZ G H Q ρ M R st e k=>⟨G,ρ,M,_,st,e,λd M1 v G1 H1 r1 x1 m1 q1=>by
  cases d<;>first|exact r1.elim|skip
  cases cW q1;exact⟨_,rfl,k _ M1 _ G1 H1 r1 x1 m1 Au.bl⟩⟩
def BC(ft:WT)(fa fb:WE):WE:=λρ M R=>ft ρ M λb M1=>if b then fa ρ M1 R else fb ρ M1 R
def c6f(hc:pp_)(ha:av_)(hb:cM!):ME X own l8_ (BC ft fa fb):=
 eS wi_ λZ G H Q ρ M R st e k=>⟨G,ρ,M,_,st,e,λx M1 G1 H1 r1 x1 m1=>by
  cases x with
  |true=>exact mM kJ_
  |false=>exact mN kJ_⟩
def Tr(fs:WA):WE:=λρ M R=>fs ρ M λds M1=>f_<=1000/\R dk_ M1
def Xa(fs:WA):WE:=λρ M R=>fs ρ M λds M1=>f_<=1000/\R cj! M1
def b9j{n:Nat}(h:hF!):ME X own (.Tuple es n pos) (Tr fs):=
 eS (b8b h.ok) λZ G H Q ρ M R st e k=>⟨G,ρ,M,_,st,e,λds M1 vs G1 H1 r1 x1 m1 q1=>⟨by rw[<-aJ q1];exact gF r1.1,λp hp=>
  k _ M1 _ _ _ r1.2 yY! (m1.ext pq!) (fV yY_ q1)⟩⟩
def c8c(h:hF!):ME X own iZ! (Xa fs):=
 eS jX! λZ G H Q ρ M R st e k=>⟨G,ρ,M,_,st,e,λds M1 vs G1 H1 r1 x1 m1 q1=>⟨by rw[<-aJ q1];exact gF r1.1,λp hp=>
  k _ M1 _ _ _ r1.2 yY! (m1.ext pq!) (dP yY_ q1)⟩⟩
end
section
variable{P:x4!}{w:x5!}{K:xB!}{M:Mh}{G H:Hp}{p a:xz!}{o:HO}{c c0:Pe}
def MR.nocell(m:co_)(h:cE_):M p=none:=by
 cases e:M p with
 |none=>rfl
 |some q=>exact absurd h (m.has pk_)
def XM.laid(s:M_)(hp:cE_):XM M G H (Bd M p c) G fh!:=by
 show"#0";refine⟨fh_,λb u e=>by rw[bC (ne (s b u e))];exact s b u e,dr_,λb u e _=>by rw[bC (ne e)];exact e,bo!,bo!⟩
 .by_cases hb:b=p
  .subst hb;exact .inr hp
  .rw[bt!]at h;exact .inl h
 .by_cases hb:b=p
  .subst hb;rw[mup_same];simp
  .rw[bt!];exact h
def MR.laid(m:co_)(hp:cE_)(s:M_)(h:Hh P w K G fh! p c):MR P w K (Bd M p c) G fh!:=⟨λb q e=>by
 by_cases hb:b=p
 .show"#'";exact⟨s.free hp,h⟩
 .rw[bt!]at e;obtain⟨B,Y⟩:=m.cell b q e;exact y1_⟩
def XM.write(m:co_)(s:M_)(ha:M a=some c0):XM M G H (Bd M a c) G cT_:=by
 have hG:=(m.cell a c0 ha).1;refine⟨fh_,λb u e=>by rw[bC (cJ e hG)];exact s b u e,dr_,λb u e hb=>?_,bo!,bo!⟩
 .have:b≠a:=λz=>by subst z;rw[ha]at hb;cases hb
  rw[bC this];exact e
 .show"#8"
  .subst hb;exact .inl (by rw[ha];simp)
  .rw[bt!]at h;exact .inl h
 .show"#8"
  .subst hb;rw[mup_same];simp
  .rw[bt!];exact h
def MR.write(m:co_)(ha:M a=some c0)(h:Hh P w K G cT_ a c):MR P w K (Bd M a c) G cT_:=⟨λb q e=>by
 show"#8"
 .show"#'";exact⟨(m.cell _ c0 ha).1,h⟩
 .rw[bt!]at e;obtain⟨B,Y⟩:=m.cell b q e;exact y1_⟩
end
open Classical in
def Gp(kvs:h_)(d:D)(ep:Nat):Nat:=if(dy!).isSome then ep else ep+1
def GM(K:xB!)(G:Hp):Option D->Option Value->Prop
 |some d,some u=>Cy K G d u
 |none,none=>True
 |_,_=>False
section
variable{X:Cx}{J:List (Addr×Obj)}{Z:St}{G H:Hp}{s:xA!}{M:Mh}{a:xz!}{kvs:List (D×D)}{ep:Nat}{A:x9!}{E:Value->Shared->Prop}{d x:D}{k:MK}{u v:x6!}
def eK(I:d!)(m:b2!)(sub:M_)(e:cp!):∃es,H a=some kH!/\Ia X.prog X.w X.K G kvs es/\Pd s.heap a es ep/\dE_=false/\ai_<=big/\Oo X.prog X.w s.heap es.toArray fF_:=by obtain⟨es,B,Y⟩:=(m.cell a _ e).2;obtain⟨⟨h3,h4,h5⟩,_⟩:=(show Fb X.prog X.w H s.heap a kH! from I.hok a _ B);exact⟨es,B,Y,h3,h4,h5,Y.ents I sub⟩
def a3y{t':Nat}{es au:ad_}{ay:Nat}(I:d!)(e:H a=some kH!)(D':Pd h' a au ay)(hs:vb_)(hn:dE_=false)(hl:au.length<=big):Inv X J Z (upd H a (dE a au ay)) {s with heap:=h',toks:=t'}:=by refine c5d I tf_ hs (let⟨o,h,_⟩:=D';pq_) ⟨⟨D',hn,hl⟩,let⟨o,h,_⟩:=D';pq_,y4!⟩;obtain⟨⟨o,z1,z2,z3⟩,z4⟩:=z;exact ps!
def a4a{Q:fu!}(hu:at!)(I:d!)(m:b2!)(sub:M_)(e:cp!)(r:b0_)(hk:bs!)
  (h:∀o s',Inv X J Z H s'->GM X.K G dy! o->Q o s'):wpAny e_ A (dictGet a u) Q E s:=by
 obtain⟨es,B,Y,h3,h4,h5,h6⟩:=eK I m sub e;refine d1t hu h3 h6 hH_ λtk=>h _ _ mP_ ?_;obtain⟨i1,i2,i3,i4⟩|⟨j,y,e',i1,i2,i3,i4,i5,i6,i7⟩:=Y.look hk
 .rw[i1,i2];exact iX!
 .rw[i1,i4];show GM X.K G (some y) (es[j]?.map (·.val));rw[i3];exact i5
def kput_len:∀(l:h_) (d x:D),(As l d x).length<=al_+1
 |[],_,_=>by simp[As]
 |(y,z)::l,d,x=>by
  unfold As;split
  .simp
  .have:=kput_len l d x;simp only[IH];omega
def c1g{Q:cV!}(hu:at!)(I:d!)(m:b2!)(sub:M_)(e:cp!)(r:b0_)(hk:bs!)(rv:kM!)(hl:cN_)
  (h:y5!):wpAny e_ A yF_ Q E s:=by
 obtain⟨es,B,Y,h3,h4,h5,h6⟩:=eK I m sub e;have am:=NA Y.1;refine d1s hu h3 h6 hH_ fH! λh' tk D' hs=>?_;have oi:=Y.put (x:=x) hk r rv;have wg:Yy (Mr fF_ k) ep=Gp kvs d ep:=by
  unfold Gp;obtain⟨i1,i2,i3,i4⟩|⟨j,y,e',i1,i2,i3,i4,i5,i6,i7⟩:=Y.look hk
  .rw[i1,i2];simp[Yy]
  .rw[i1,i4];simp[Yy]
 rw[wg]at D';have wj:=NA oi.1;have:=kput_len kvs d x;exact h _ _ (a3y I B D' hs h4 a!) ⟨_,bV,oi⟩
def b0t{Q:p_}(hu:eu!)(I:d!)(m:b2!)(sub:M_)(e:cp!)(r:b0_)(hk:bs!)(O:y5_)
  (h:∀o s',Inv X J Z H s'->Cy X.K G x o->Q o s'):wpAny e_ A (getItem ae! u) Q E s:=by
 obtain⟨es,B,Y,h3,h4,h5,h6⟩:=eK I m sub e;have hT:=fH_;unfold getItem;refine JS (HL (wpAny_sequenceKey hT c_ (HL (KC (name:=ug_) hT PySem.slot_dict_getitem (JO PySem.slot_dict_getitem hT PySem.entry_dict_getitem ?_ (PySem.args_dict_getitem _ _))))));show wpAny e_ A.in1 kN_ _ _ s;refine HL kO!;rw[O]at ho;cases o with
 |none=>exact ho.elim
 |some o=>exact HN ⟨o,rfl,HN (h o s' I' ho)⟩
def tT{Q:er!}(hu:eu!)(I:d!)(m:b2!)(sub:M_)(e:cp!)(r:b0_)(hk:bs!)
  (h:∀s',Inv X J Z H s'->Q (dy!).isSome s'):wpAny e_ A (contains ae! u) Q E s:=by
 obtain⟨es,B,Y,h3,h4,h5,h6⟩:=eK I m sub e;have hT:=fH_;unfold contains;refine JS (HL (PQ hT PR.lookup ?_));rw[HR (by rw[beq_builtin_none];exact IR)];refine HL (wpAny_callSpecialUnlessNone?_slot (name:=Str.ofString "__contains__") hT PR (JO PR hT PySem.entry_dict_contains ?_ (PySem.args_dict_contains _ _)));show wpAny e_ A.in1 kN_ _ _ s;refine HL kO!;cases o with
 |none=>
  have hn:kget kvs d=none:=by
   cases q:kget kvs d with
   |none=>rfl
   |some y=>rw[q]at ho;exact ho.elim
  have h:=h s' I';rw[hn]at h;exact HL (wpAny_pendingKey_other h4 (HN y6!))
 |some o=>
  have hn:(dy!).isSome=true:=by
   cases q:kget kvs d with
   |none=>rw[q]at ho;exact ho.elim
   |some y=>rfl
  have h:=h s' I';rw[hn]at h;exact HN y6!
def b0s{Q:cV!}(hu:eu!)(I:d!)(m:b2!)(sub:M_)(e:cp!)(r:b0_)(hk:bs!)(rv:kM!)(hl:cN_)
  (h:y5!):wpAny e_ A (setItem ae! u v) Q E s:=by
 obtain⟨es,B,Y,h3,h4,h5,h6⟩:=eK I m sub e;have hT:=fH_;unfold setItem;refine JS (HL (wpAny_sequenceKey hT c_ (HL (KC (name:=Str.ofString "__setitem__") hT PySem.slot_dict_setitem (JO PySem.slot_dict_setitem hT PySem.entry_dict_setitem ?_ (PySem.args_dict_setitem _ _ _))))));refine HL (OZ hT ?_);show wpAny e_ A.in1 (dictSet a u v>>=_) _ _ s;exact HL (c1g (A:=A.in1) hu I m sub e r hk rv hl λau s' I' c'=>HN ⟨.none,rfl,HN (h au s' I' c')⟩)
def c5f{Q:p_}(hu:eu!)(I:d!)(m:b2!)(sub:M_)(e:cp!)(r:b0_)(hk:bs!)
  (h:∀o s',Inv X J Z H s'->Cy X.K G ((dy!).getD .non) o->Q o s'):wpAny e_ A (call y7! [dW!,u]) Q E s:=by
 obtain⟨es,B,Y,h3,h4,h5,h6⟩:=eK I m sub e;refine JO OQ h3.typeIs PySem.F.entry_dict_get ?_ (PySem.F.args_dict_get_2 _ _);show wpAny e_ A.in1 kN_ _ _ s;refine HL kO!;cases q:kget kvs d with
 |none=>
  rw[q]at ho;cases o with
  |none=>
   have h:=h .none s' I';rw[q]at h;exact HL (wpAny_missed_other h4 (HN ⟨.none,rfl,h ⟨V.non,Au.non,rfl⟩⟩))
  |some o=>exact ho.elim
 |some y=>
  rw[q]at ho;cases o with
  |none=>exact ho.elim
  |some o=>
   have h:=h o s' I';rw[q]at h;exact HN y8!
def c5e{Q:p_}(hu:eu!)(I:d!)(m:b2!)(sub:M_)(e:cp!)(r:b0_)(hk:bs!)(rv:kM!)
  (h:∀o s',Inv X J Z H s'->Cy X.K G ((dy!).getD x) o->Q o s'):wpAny e_ A (call y7! [dW!,u,v]) Q E s:=by
 obtain⟨es,B,Y,h3,h4,h5,h6⟩:=eK I m sub e;refine JO OQ h3.typeIs PySem.F.entry_dict_get ?_ (PySem.F.args_dict_get_3 _ _ _);show wpAny e_ A.in1 kN_ _ _ s;refine HL kO!;cases q:kget kvs d with
 |none=>
  rw[q]at ho;cases o with
  |none=>
   have h:=h v s' I';rw[q]at h;exact HL (wpAny_missed_other h4 (HN ⟨v,rfl,h rv⟩))
  |some o=>exact ho.elim
 |some y=>
  rw[q]at ho;cases o with
  |none=>exact ho.elim
  |some o=>
   have h:=h o s' I';rw[q]at h;exact HN y8!
def yU{Q:p_}(hu:eu!)(I:d!)(m:b2!)(sub:M_)(e:cp!)(r:b0_)(hk:bs!)(rv:kM!)(hl:cN_)
  (hs:∀y o s',kget kvs d=some y->Inv X J Z H s'->Cy X.K G y o->Q o s')
  (hn:kget kvs d=none->∀au s',Inv X J Z kP! s'->Hh X.prog X.w X.K G kP! a (.dct pj! bI_)->Q v s'):wpAny e_ A (call (.builtin "dict.setdefault") [dW!,u,v]) Q E s:=by
 obtain⟨es,B,Y,h3,h4,h5,h6⟩:=eK I m sub e;have am:=NA Y.1;have hT:=fH_;refine JO RT hT PySem.F.entry_dict_setdefault ?_ (PySem.F.args_dict_setdefault_3 _ _ _);unfold Builtin.«dict.setdefault» y8_;refine HL pw!;dsimp only;rw[HR (by rw[h4];exact IR)];obtain⟨i1,i2,i3,i4⟩|⟨j,y,e',i1,i2,i3,i4,i5,i6,i7⟩:=Y.look hk
 .refine HL (qV (A:=A.in1) hu h3 h6 hH_ fH! (λj e tk q=>by rw[i1]at q;cases q) λh' tk _ D' bx=>HN ⟨_,rfl,hn i2 _ _ y9! ⟨_,bV,?_⟩⟩)
  .rw[IL,KU];omega
  .have:=Y.put (x:=x) hk r rv;rw[i1]at this;show"#D"
 .exact HL (qV (A:=A.in1) hu h3 h6 hH_ fH! (λj' e tk q q2=>by
   rw[i1]at q;cases q;rw[i3]at q2;cases q2;exact HN ⟨_,rfl,hs y _ _ i4 mP_ i5⟩) λh' tk q=>by rw[i1]at q;cases q)
def c9e{Q:p_}(hu:eu!)(I:d!)(m:b2!)(sub:M_)(e:cp!)(r:b0_)(hk:bs!)(O:y5_)
  (h:∀au o s',Inv X J Z kP! s'->Hh X.prog X.w X.K G kP! a (.dct (Gq kvs d) bI_)->Cy X.K G x o->Q o s'):wpAny e_ A (call (.builtin "dict.pop") [dW!,u]) Q E s:=by
 obtain⟨es,B,Y,h3,h4,h5,h6⟩:=eK I m sub e;have hT:=fH_;obtain⟨i1,i2,i3,i4⟩|⟨j,y,e',i1,i2,i3,i4,i5,i6,i7⟩:=Y.look hk
 .rw[i2]at O;cases O
 .rw[i4]at O;cases O;refine JO PySem.F.slot_dict_pop hT PySem.F.entry_dict_pop ?_ (PySem.F.args_dict_pop_2 _ _);unfold Builtin.«dict.pop» y8_;refine HL pw!;dsimp only;have fin:wpAny e_ A.in1 yI! (λao s'=>∃e o,ao=some e/\e.val=o/\Q o s') E s:=by
   refine c8t (A:=A.in1) hu h3 h6 hH_ fH! i1 i3 λh' tk D' bx=>⟨e',_,rfl,rfl,h _ _ _ y9! ⟨_,bV,?_⟩ i5⟩
   .exact JD (List.length_eraseIdx_le _ _) h5
   .rw[i7];exact Y.del
  obtain⟨o,ho,_,hd⟩:=id h3;have b9:es.toArray.isEmpty=false:=by
   cases es with
   |nil=>simp at i3
   |cons _ _=>rfl
  by_cases hp:(keyPart u).isSome=true
  .rw[IA hp];refine HL af!;rw[HR IR];refine HL za_;subst q1 q2;exact HL zb!
  .rw[HR hp];refine HL (LU ho hd (HL af!));rw[b9,HR IR];refine HL za_;subst q1 q2;exact HL zb!
end
section
variable{X:Cx}{J:List (Addr×Obj)}{Z:St}{H:Hp}{s:xA!}
def a5k{ds es:b!}{A:x9!}(I:d!)(qa:kc_)(qb:Gc X.K H b ws)(rd:hl!)(re:hl_)(hu:at!)
  (h:kf!):SeqAt.RcNeAt A s ae! d2! (!Io ds es):=by
 obtain⟨us,rv,p1,_⟩:=I.tuple qa;obtain⟨us',ak,p2,_⟩:=I.tuple qb;have B:=aJ rd;have Y:=aJ re;have h3:=gl_;have h4:=kg!;have z:=SeqAt.RcNeAt.tuples (A:=A) (e:=kf_) p1 p2 hu kg_;have e:w2_=Io ds es:=by
  show"#2"
  .rw[hl,Nat.min_self,<-hl,kh_,hl];simp
  .rw[ki!];have:(f_==ai_)=false:=by simpa using hl
   rw[this,QR]
 rw[e]at z;exact z
def a9g{ds es:b!}{A:x9!}(I:d!)(qa:oB_)(qb:Fn X.K H b ws)(rd:hl!)(re:hl_)(hu:at!)
  (h:kf!):SeqAt.RcNeAt A s ae! d2! (!Io ds es):=by
 show"!@";have h4:=kg!;by_cases hl:f_=ai_
 .have z:=SeqAt.RcNeAt.lists (A:=A) (e:=kf_) p1.isList p2.isList of! hu kg_;rw[HX,<-h3,<-B,kh_]at z;exact z
 .rw[ki!];exact SeqAt.RcNeAt.lists_lengths p1.isList p2.isList w3! hu
def b7b(I:d!){A:x9!}(n:cJ_)(n':fq_)(hu:at!)(r:en!)(r':hm_)(ru:by!)(ap:hn!)(hT:∀xs ys,d=.tup xs->d'=.tup ys->SeqAt.RcNeAt A s u u' kP_)(hL:∀xs ys,d=.lst xs->d'=.lst ys->SeqAt.RcNeAt A s u u' kP_):SeqAt.RcNeAt A s u u' kP_:=by
 show"!k"
 all_goals first|exact hT _ _ rfl rfl|exact hL _ _ rfl rfl|(unfold Dw;(try simp only[PP,LI]);with_reducible first|exact .none_none|exact .same _|exact .none_bool _|exact .none_int _ _|exact .none_str _ _|exact .none_tuple ‹_› hu|exact .none_list ‹_› hu|exact .bool_none _|exact .bool_bool _ _|exact .bool_int _ _ _|exact .bool_str _ _ _|exact .bool_tuple _ ‹_› hu|exact .bool_list _ ‹_› hu|exact .int_none _ _|exact .int_bool _ _ _|exact .int_int _ _ _ _|exact .int_str _ _ _ _|exact .int_tuple _ _ ‹_› hu|exact .int_list _ _ ‹_› hu|exact .str_none _ _|exact .str_bool _ _ _|exact .str_int _ _ _ _|exact .str_str _ _ _ _|exact .str_tuple _ _ ‹_› hu|exact .str_list _ _ ‹_› hu|exact .tuple_none ‹_› hu|exact .tuple_bool _ ‹_› hu|exact .tuple_int _ _ ‹_› hu|exact .tuple_str _ _ ‹_› hu|exact .tuple_list ‹_› ‹_› hu|exact .list_none ‹_› hu|exact .list_bool _ ‹_› hu|exact .list_int _ _ ‹_› hu|exact .list_str _ _ ‹_› hu|exact .list_tuple ‹_› ‹_› hu)
def b7c(I:d!)(d d':D){A:x9!}(n:cJ_)(n':fq_)(hu:w4_)(r:en!)(r':hm_)(ru:by!)(ap:hn!):SeqAt.RcNeAt A s u u' kP_:=
 b7b I n n' a! r r' ru ap (λxs ys e e'=>by
  subst e e';obtain⟨a,vs,rfl,q,rr⟩:=bT r;obtain⟨b,ws,rfl,q',bz⟩:=bT r';cases ru;cases ap;unfold Bh at n n';unfold Ij at hu;unfold Dw;exact a5k I q q' rr bz a! λus us' rv ak=>kZ I xs ys A.in1 vs ws us us' n n' fr_ rr bz rv ak) (λxs ys e e'=>by
  subst e e';obtain⟨a,vs,rfl,q,rr⟩:=bU r;obtain⟨b,ws,rfl,q',bz⟩:=bU r';cases ru;cases ap;unfold Bh at n n';unfold Ij at hu;unfold Dw;exact a9g I q q' rr bz a! λus us' rv ak=>kZ I xs ys A.in1 vs ws us us' n n' fr_ rr bz rv ak)
def AI(K:xB!):R2:=λx y H Q=>∃dx dy,Au K H dx x/\Au K H dy y/\Bh dx=true/\Bh dy=true/\Ij dx<=40/\Q (.bl (!Dw dx dy)) H
def gN(hu:au!):Gs X sx_ (AI X.K):=by intro J s Z H x y v u Q I rx ry h;obtain⟨dx,dy,r1,r2,n1,n2,hd,q⟩:=h;exact b7c I dx dy n1 n2 a! r1 r2 rx ry X.prog X.w X.xe _ ki_
def Eu:D->D->Option D:=λx y=>if Bh x&&Bh y&&decide (Ij x<=40)then some (.bl (!Dw x y))else none
def wE{K:xB!}:Ip K (AI K) Eu:=by
 show"!/";unfold Eu at e;show"!6"
 .show"!t";cases e;exact w5_
 .cases e
open Classical in
def Tq(K:xB!)(H:Hp)(x:D)(u:x6!):Bool:=decide (∃d,Cy K H d u/\Bh d=true/\Dw d x=true)
open Classical in
def b0l(I:d!)(r:Cy X.K H d u)(n:cJ_):Tq X.K H x u=Dw d x:=by
 unfold Tq;cases h:Dw d x with
 |true=>exact IT ⟨d,r,n,h⟩
 |false=>
  refine IK ?_;rintro⟨d',⟨v',r',ap⟩,n',h'⟩;obtain⟨v,r,ru⟩:=r;have:=ru.inj ap;subst this;rw[a1r I d d' v n n' r r']at h;rw[h]at h';cases h'
def qZ(I:d!):∀{ds:b!} {vs:l_} {us:i!},Ao X.K H ds vs->Bc vs us->Bp ds=true->us.any (Tq X.K H x)=ds.any λd=>Dw d x
 |[],vs,us,r,rv,_=>by cases cM r;cases rv;rfl
 |d::ds,vs,us,r,rv,n=>by
  obtain⟨v,t,rfl,r1,r2⟩:=bN r;unfold Bp at n;rw[IZ]at n;cases rv with
  |cons ll j7=>rw[MD,MD,b0l I ⟨v,r1,ll⟩ n.1,qZ I r2 j7 n.2]
def nN(I:d!){A:x9!}(rx:Au X.K H x y)(ry:Bs y v)(nx:Bh x=true):∀{ds:b!} {vs:l_} {us:i!},Ao X.K H ds vs->Bc vs us->Bp ds=true->A.units+Dj ds<cLine->∀u∈us,SeqAt.EqAt A s u v (Tq X.K H x u)
 |[],vs,us,r,rv,_,_=>λu hu=>by cases cM r;cases rv;cases hu
 |d::ds,vs,us,r,rv,n,hd=>λu hu=>by
  obtain⟨z,t,rfl,r1,r2⟩:=bN r;unfold Bp at n;rw[IZ]at n;unfold Dj at hd;cases rv with
  |cons ll j7=>
   obtain rfl|hu:=HQ.mp hu
   .rw[b0l I ⟨z,r1,ll⟩ n.1];exact c0r I d x A z y _ _ n.1 nx a! r1 rx ll ry
   .exact nN I rx ry nx r2 j7 n.2 a! u hu
def AK(K:xB!)(neg:Bool):R2:=λx y H Q=>∃p ys dx ds,y=.ref p/\px_/\Au K H dx x/\Ao K H ds ys/\Bh dx=true/\Bp ds=true/\Dj ds<=40/\Q (.bl (if neg then !(ds.any λd=>Dw d dx)else ds.any λd=>Dw d dx)) H
def c7o(hu:au!):Gs X jj! (AK X.K false):=by
 intro J s Z H x y v u Q I rx ry h;obtain⟨p,ys,dx,ds,rfl,hq,r1,r2,n1,n2,hd,q⟩:=h;cases ry;obtain hq|hq:=hq
 .show"!O";refine SeqAt.in_listAt ev! pl.isList kQ_ e6!;rw[kR!,kR_];exact q
 .show"!z";refine SeqAt.in_tupleAt ev! pl kQ_ e6!;rw[kR!,kR_];exact q
def b4q(hu:au!):Gs X py_ (AK X.K true):=by
 intro J s Z H x y v u Q I rx ry h;obtain⟨p,ys,dx,ds,rfl,hq,r1,r2,n1,n2,hd,q⟩:=h;cases ry;obtain hq|hq:=hq
 .show"!O";refine SeqAt.notIn_listAt ev! pl.isList kQ_ e6!;rw[kR!,kR_];exact q
 .show"!z";refine SeqAt.notIn_tupleAt ev! pl kQ_ e6!;rw[kR!,kR_];exact q
def AL(P:x4!)(w:x5!)(K:xB!)(neg:Bool):R2:=λx y H Q=>∃(M:Mh) (G:Hp) (a:xz!) (kvs:h_) (ep:Nat) (d:D) (k:MK),y=.ref a/\Bj G H/\MR P w K M G H/\M a=some hH!/\Au K G d x/\Dc d=some k/\Q (.bl (if neg then !(dy!).isSome else(dy!).isSome)) H
def c7p(hu:au!):Gs X jj! (AL X.prog X.w X.K false):=by intro J s Z H x y v u Q I rx ry h;obtain⟨M,G,a,kvs,ep,d,k,rfl,sub,m,e,r,hk,q⟩:=h;cases ry;exact HL ze_
def b4r(hu:au!):Gs X py_ (AL X.prog X.w X.K true):=by intro J s Z H x y v u Q I rx ry h;obtain⟨M,G,a,kvs,ep,d,k,rfl,sub,m,e,r,hk,q⟩:=h;cases ry;exact HL ze_
def Yr(P:x4!)(w:x5!)(K:xB!)(neg:Bool):R2:=λx y H Q=>AK K neg x y H Q\/AL P w K neg x y H Q
def iC(hu:au!):Gs X jj! (Yr X.prog X.w X.K false):=(c7o hu).or (c7p hu)
def nE(hu:au!):Gs X py_ (Yr X.prog X.w X.K true):=(b4q hu).or (b4r hu)
def Pq(M:Mh):D->Option aQ_
 |.lst xs=>some xs
 |.tup xs=>some xs
 |.fn a=>match M a with|some (.lst xs)=>some xs|_=>none
 |_=>none
def a1e{K:xB!}{M:Mh}{G H:Hp}(sub:M_)(m:co_)(r:cF_)(e:Pq M d=some xs):∃p ys,v=.ref p/\px_/\Ao K G xs ys:=by
 cases d<;>first|(cases e;done)|skip
 .cases e;show"!X";exact⟨p,vs,rfl,.inr kj!,rr⟩
 .cases e;obtain⟨p,vs,rfl,q,rr⟩:=bU r;exact⟨p,vs,rfl,.inl (sub.seq q),rr⟩
 .rename_i a;cases fZ r;simp only[Pq]at e;show"!6"
  .rename_i ys hy;cases e;obtain⟨_,vs,B,Y⟩:=m.cell a _ hy;exact⟨a,vs,rfl,.inl (Fn.of B),Y⟩
  .cases e
def Hs(neg:Bool)(M:Mh)(x y:D):Option D:=match y with
 |.fn a=>match M a with
  |some (.dct kvs _)=>(Dc x).bind λ_=>some (.bl (if neg then !(kget kvs x).isSome else(kget kvs x).isSome))
  |_=>inS M x y
 |_=>inS M x y
where inS (M:Mh) (x y:D):Option D:=(Pq M y).bind λds=>if Bh x&&Bp ds&&decide (Dj ds<=40)then some xa! else none
def fF{K:xB!}{neg:Bool}:Yj P w K (Yr P w K neg) (Hs neg):=by
 intro x y dx dy d M G H Q sub m rx ry e k;have seq:Hs.inS neg M dx dy=some d->Yr P w K neg x y H Q:=λe=>by
  obtain⟨ds,e1,e2⟩:=HM.mp e;split at e2
  .show"!t";cases e2;obtain⟨p,ys,rfl,q,rr⟩:=a1e sub m ry e1;exact .inl ⟨p,ys,dx,ds,rfl,q,rx.mono sub,rr.mono sub,h.1.1,h.1.2,h.2,ek_⟩
  .cases e2
 unfold Hs at e;show"!6"
 .rename_i a;show"!6"
  .show"#:";cases e2;cases fZ ry;exact .inr ⟨M,G,a,kvs,ep,dx,kk,rfl,sub,m,hM,rx,e1,ek_⟩
  .exact seq e
 .exact seq e
def CA(P:x4!)(w:x5!)(K:xB!):R2:=λx y H Q=>∃(M:Mh) (G:Hp) (a:xz!) (kvs:h_) (ep:Nat) (d z:D) (k:MK),x=.ref a/\Bj G H/\MR P w K M G H/\M a=some hH!/\Au K G d y/\Dc d=some k/\kget kvs d=some z/\∀v,Au K G z v->Q v H
def c8m(hu:au!):Wu X (CA X.prog X.w X.K):=by
 intro value gf J s Z H x y v u Q I rx ry h hs;obtain⟨M,G,a,kvs,ep,d,z,k,rfl,sub,m,e,r,hk,hz,q⟩:=h;cases rx;obtain⟨es,B,Y,h3,h4,h5,h6⟩:=eK I m sub e;unfold subscriptTail;refine HL ?_;rw[getitemInPython_of_ne h3.typeIs.not_modules];refine HL (PQ h3.typeIs PySem.F.slot_dict_getitem.lookup ?_);have fin:wpAny e_ X.A (subscripted gf false ae! u) (λr dt=>wpAny e_ X.A (letTemporaryGo value ae! r>>=λ_=>pure r) aN! X.xe dt) X.xe s:=by
  rw[hs];exact wpAny_operating (b0t (A:=X.A) a! I m sub e ⟨_,r,ry⟩ hk hz λo s' I' ⟨v',r',ap⟩=>HL (wpAny_letTemporaryGo (HN ⟨v',H,I',ap,q v' r'⟩)))
 first
  |exact HN jr_
  |exact HL (HN jr_)
  |exact HL fin
def CB(P:x4!)(w:x5!)(K:xB!):R2:=λx y H Q=>EY K x y H Q\/CA P w K x y H Q
def bK(hu:au!):Wu X (CB X.prog X.w X.K):=aH.or (c8m hu)
def Br(M:Mh)(x y:D):Option D:=match x with
 |.fn a=>match M a with
  |some (.dct kvs _)=>(fK!).bind λ_=>kget kvs y
  |some (.lst xs)=>match y with|.int i=>Cw xs i|_=>none
  |_=>none
 |_=>Ai x y
def bI{K:xB!}:Yj P w K (CB P w K) Br:=by
 show"!_";unfold Br at e;show"!6"
 .rename_i a;cases fZ rx;show"!6"
  .show"#:";exact .inr ⟨M,G,a,kvs,ep,dy,d,kk,rfl,sub,m,hM,ry,e1,e2,λv r=>k v G H aR_ r⟩
  .rename_i xs hM;show"!6"
   .rename_i i;cases bD ry;show"!|";obtain⟨v,e6,r6⟩:=pO Y e;exact .inl (.inl ⟨a,vs,i,v,rfl,rfl,Fn.of B,e6,k v G H aR_ r6⟩)
   .cases e
  .cases e
 .exact .inl (aL sub rx ry e k)
def Pa(M:Mh)(x y:D):Option D:=match x with
 |.fn a=>match M a,y with
  |some (.lst xs),.lst ys=>if k_+ac_<=big then some (.lst eD!)else none
  |_,_=>none
 |_=>Al x y
def uM{K:xB!}:Yj P w K (Sw K) Pa:=by
 show"!_";unfold Pa at e;show"!6"
 .rename_i a;cases fZ rx;show"!6"
  .rename_i xs ys hM;show"!6"
   .show"!F";show"!|";obtain⟨b,ws,rfl,qb,rb⟩:=bU ry;exact .inr (.inr (.inr (.inr ⟨a,b,vs,ws,rfl,rfl,Fn.of B,sub.seq qb,by rw[<-aJ Y,<-aJ rb];exact cS hl,λp hp=>k _ _ _ jZ! (dP hd! (cY Y rb))⟩)))
   .cases e
  .cases e
 .exact bF sub rx ry e k
end
def Dx{α:Type}(o:Option α)(R:pA!):Prop:=match o with|some a=>R a|none=>False
def cP{α:Type}{o:Option α}{R:pA!}(h:Dx o R):∃a,o=some a/\R a:=by
 cases o with
 |none=>exact h.elim
 |some a=>exact⟨a,rfl,h⟩
def Gr(C:xz!)(x:Str)(M:Mh)(d:D):Option D:=match d with
 |.fn a=>match M a with
  |some (.obj C' fs)=>if C'=C then fs.lookup x else none
  |_=>none
 |_=>none
def Bo(f:Str)(v:D):List cm_->List cm_
 |[]=>[(f,v)]
 |(g,x)::r=>if g=f then(g,v)::r else(g,x)::Bo f v r
def a7j{K:xB!}{G:Hp}{x:Str}:∀{fs:aS_} {vs:eD_},On K G fs vs->fs.lookup x=some d->∃v,vs.lookup x=some v/\Au K G d v
 |_,_,.nil,e=>by simp at e
 |(a,b)::r,(a',b')::r',.cons ⟨B,Y⟩ t,e=>by
  have B:a=a':=B;subst B;cases O:(x==a)with
  |true=>
   simp only[JP,O]at e ⊢;cases e;exact⟨b',rfl,Y⟩
  |false=>
   simp only[JP,O]at e ⊢;exact a7j t e
def a7i{K:xB!}{G:Hp}{x:Str}:∀{fs:aS_} {vs:eD_},On K G fs vs->fs.lookup x=none->vs.lookup x=none
 |_,_,.nil,_=>rfl
 |(a,b)::r,(a',b')::r',.cons ⟨B,Y⟩ t,e=>by
  have B:a=a':=B;subst B;cases O:(x==a)with
  |true=>simp only[JP,O]at e;cases e
  |false=>
   simp only[JP,O]at e ⊢;exact a7i t e
def b3a{K:xB!}{G:Hp}{x:Str}(r:cF_):∀{fs:aS_} {vs:eD_},On K G fs vs->On K G (Bo x d fs) (Lg x v vs)
 |_,_,.nil=>.cons ⟨rfl,r⟩ .nil
 |(a,b)::fs,(a',b')::vs,.cons ⟨B,Y⟩ t=>by
  have B:a=a':=B;subst B;show On K G (if a=x then(a,d)::fs else aa_::Bo x d fs) (if a=x then(a,v)::vs else(a,b')::Lg x v vs);by_cases e:a=x
  .rw[IA e,IA e];exact .cons ⟨rfl,r⟩ t
  .rw[HR e,HR e];exact .cons ⟨rfl,Y⟩ (b3a r t)
section
variable{X:Cx}{own:List Nat}{e o a b:Expr}{es:List Expr}{pos ag ab p:Pos}{f fa fb fo:WE}{fs:WA}{x m:Str}{C:xz!}
def Av(C:xz!)(x:Str)(f:WE):WE:=λρ M R=>f ρ M λd M1=>Dx (Gr C x M1 d) λv=>R v M1
def bJ(c:dV_)(n:Eg X.K C x)(h:b1!)(hb:attributeBase e x X.env eJ_=eval e X.env:=by rfl):ME X own (.Attribute e x pos) (Av C x f):=
 eS (c7j h.ok hb) λZ G H Q ρ M R st e k=>⟨G,ρ,M,_,st,e,λd M1 v G1 H1 r1 x1 m1 q1=>by
  obtain⟨z,B,Y⟩:=cP r1;cases d<;>first|(cases B;done)|skip
  rename_i ad;cases fZ q1;simp only[Gr]at B;split at B
  .rename_i C' fs hM;split at B
   .rename_i hC;subst hC;obtain⟨_,dx,vs,h3,h4⟩:=m1.cell ad _ hM;obtain⟨u,h5,h6⟩:=a7j h4 B;exact⟨ad,_,dx,vs,u,rfl,h3,c,n,h5,k z M1 u G1 H1 Y x1 m1 h6⟩
   .cases B
  .cases B⟩
def Sn(P:x4!)(w:x5!)(K:xB!)(r:dQ!)(g:hL!):Prop:=∀{vs:l_} {ds:b!} {d:D} {M:Mh} {G H:Hp} {Q:VK},Bj G H->MR P w K M G H->Ao K G ds vs->g M ds=some d->jS!->r vs H Q
nonrec def w1(g:hL!)(fs:WA):WE:=λρ M R=>fs ρ M λds M1=>Dx (g M1 ds) λd=>R d M1
def wN{id:String}{r:dQ!}{g:hL!}(hc:mR!)(hd:zh!)(hg:X!)(hm:c2!)(hv:m5!)(ha:hM!)(hn:c2_:=by decide)
  (be:H!:=by decide)(he:aB_:=by rfl)(az:a7_:=by rfl):ME X own bC! (w1 g fs):=
 eS wn_ λZ G H Q ρ M R st e' k=>⟨G,ρ,M,_,st,e',λds M1 vs G1 H1 r1 x1 m1 q1=>by
  obtain⟨d,B,Y⟩:=cP r1;exact hd x1.sub m1 q1 B λv G2 H2 x2 q2=>k d M1 v G2 H2 Y zh_ (m1.ext x2) q2⟩
def zS{T:String}{r:dQ!}{g:hL!}(hc:Jn X d1_ r)(hd:zh!)(hg:X!)(hm:c2!)(hv:m6!)(ha:hM!)(hn:c2_:=by decide)
  (be:H!:=by decide)(he:aB_:=by rfl)(az:a7_:=by rfl):ME X own bC! (w1 g fs):=
 eS (b4p hc hg hm hv ha.ok hn be he az) λZ G H Q ρ M R st e' k=>⟨G,ρ,M,_,st,e',λds M1 vs G1 H1 r1 x1 m1 q1=>by
  obtain⟨d,B,Y⟩:=cP r1;exact hd x1.sub m1 q1 B λv G2 H2 x2 q2=>k d M1 v G2 H2 Y zh_ (m1.ext x2) q2⟩
def Uq(M:Mh):List D->Option D
 |[.str x]=>Bf [.str x]
 |[d]=>(Pq M d).map λxs=>.int k_
 |_=>none
def c1k{K:xB!}:Sn P w K wy! Uq:=by
 show"!T";unfold Uq at e;show"!6"
 .exact dN sub r e k
 .obtain⟨xs,e1,rfl⟩:=IB.mp e;show"!l";refine⟨fp!,k_,rfl,?_,do!⟩;rw[aJ rr];exact q.elim (λz=>.inl zj_) λz=>.inr zj_
 .cases e
def We(M:Mh):List D->Option D
 |[d]=>(Pq M d).bind λxs=>if k_<=big then some R! else none
 |_=>none
def c5i{K:xB!}:Sn P w K (λxs H Q=>∃p ys,xs=gM_/\px_/\∀l,H l=none->Q jj_ jk!) We:=by
 show"!T";unfold We at e;show"!6"
 .obtain⟨xs,e1,e2⟩:=HM.mp e;split at e2
  .cases e2;show"!l";exact⟨p,ys,rfl,q,λl hl=>k _ _ _ zk! (dP (sub.free hl) rr)⟩
  .cases e2
 .cases e
def Qd(fs:WA):WE:=λρ M R=>fs ρ M λds M1=>f_<=1000/\∀p,M1 p=none->R G! (Bd M1 p cj!)
def a2i(h:hF!):ME X own iZ! (Qd fs):=
 eS jX! λZ G H Q ρ M R st e k=>⟨G,ρ,M,_,st,e,λds M1 vs G1 H1 r1 x1 m1 q1=>⟨by rw[<-aJ q1];exact gF r1.1,λp hp=>
  k _ _ _ _ _ (r1.2 p (m1.nocell hp)) (x1.trans (.laid x1.sub hp) m1) (m1.laid hp x1.sub ⟨vs,bV,q1⟩) Au.fn⟩⟩
def Mf(M:Mh)(d:D):Option (Addr×List D):=match d with
 |.fn p=>match M p with|some (.lst xs)=>some (p,xs)|_=>none
 |_=>none
def mU{K:xB!}{M:Mh}{G H:Hp}{q:Addr×List D}(m:co_)(r:cF_)(e:Mf M d=some q):d=.fn q.1/\v=.ref q.1/\M q.1=some (.lst q.2)/\∃vs,H q.1=some dl_/\Ao K G q.2 vs:=by
 cases d<;>first|(cases e;done)|skip
 rename_i p;cases fZ r;simp only[Mf]at e;show"!6"
 .rename_i xs hM;cases e;exact⟨rfl,rfl,hM,(m.cell p _ hM).2⟩
 .cases e
def Ef(M:Mh)(d:D):Option (Addr×List aF_×Nat):=match d with
 |.fn p=>match M p with|some (.dct kvs ep)=>some kW!|_=>none
 |_=>none
def cI{K:xB!}{M:Mh}{G:Hp}{q:zl!}(r:cF_)(e:Ef M d=some q):d=.fn q.1/\v=.ref q.1/\M q.1=some pB_:=by
 cases d<;>first|(cases e;done)|skip
 rename_i p;cases fZ r;simp only[Ef]at e;show"!6"
 .rename_i xs ep hM;cases e;exact⟨rfl,rfl,hM⟩
 .cases e
def Ts(fo fa:WE):WE:=λρ M R=>fo ρ M λd M1=>Dx pC_ λ_=>fa ρ M1 λv M2=>Dx pD_ λq=>pD!<big/\R .non zl_
def b2s(ho:cr!)(ha:av_)(bv:hg!:=by rfl)(fh:((kl!).all cd_&&(ce!).all ce_
   &&decide kl_)=true:=by rfl) (fm:dd_:=by rfl)
  (fg:attributeBase o "append" X.env c5!=eval o X.env:=by rfl) (fq:fo_:=by rfl):ME X own (.Call (.Attribute o "append" ag) [a] [] ab) (Ts fo fa):=
 eS (vW MQ PySem.F.slot_list_append PySem.F.type_list_append zP ho.ok zn! fg fh fm bv fq) λZ G H Q ρ M R st e k=>
  ⟨G,ρ,M,_,st,e,λd M1 v G1 H1 r1 x1 m1 q1=>by
   obtain⟨c1,e1,r1⟩:=cP r1;obtain⟨rfl,rfl,_,zd,hH,_⟩:=mU m1 q1 e1;refine zo!;obtain⟨⟨p2,VF⟩,e2,r2⟩:=cP r2;obtain⟨z1,z2,z3,vs,B,Y⟩:=mU m2 b1_ e2;cases z2;refine⟨_,vs,u,rfl,rfl,B,by rw[<-aJ Y];exact IV r2.1 (cS x_),?_⟩;exact k _ _ _ _ _ r2.2 zo_ (m2.write z3 ⟨_,bV,cY Y (Ao.cons q2 Ao.nil)⟩) Au.non⟩
def lB{J:n_}{Z:St}{G H:Hp}{s:xA!}{M:Mh}{q:zl!}(I:d!)(m:b2!)(sub:M_)(e:M q.1=some pB_):
  s.TypeIs (.ref q.1) "dict"/\∀b,Value.ref q.1=.ref b->∃ob,s.heap.get? b=some ob/\ob.dict=none:=by
 obtain⟨es,_,_,h3,_⟩:=eK I m sub e;refine⟨fH_,λb z=>?_⟩;cases z;obtain⟨o,h,hc,_⟩:=h3;exact⟨o,h,hc.2.1⟩
def ME.run{J:n_}{Z:St}{G H:Hp}{ρ:Ad}{M:Mh}{R:s_}{Q:p_}(h:b1!)(I:d!)(st:yS!)(hf:hE_)
  (k:∀d M' v G' H' u s',R d M'->XM M G H M' G' H'->MR X.prog X.w X.K M' G' H'->Au X.K G' d v->Inv X J Z H' s'->Bs v u->Q u s'):wpAny e_ X.A eJ_ Q X.xe s:=
 dO (h.ok J s Z H (λv H'=>∃d M' G',R d M'/\XM M G H M' G' H'/\MR X.prog X.w X.K M' G' H'/\Au X.K G' d v) I ⟨G,ρ,M,R,st,hf,λd M' v G' H' r x m q=>⟨d,M',G',r,x,m,q⟩⟩) λu s' ⟨v,H',I',rv,d,M',G',r,x,m,q⟩=>k d M' v G' H' u s' r x m q I' rv
def Oq(fo fa:WE):WE:=λρ M R=>fo ρ M λd M1=>Dx hN! λ_=>fa ρ M1 λy M2=>Dx (Ef M2 d) λq=>Dx fK! λ_=>R ((pE!).getD .non) M2
def b9l(hu:au!)(ho:cr!)(ha:av_)(m:M1 X o "get" ag a ab):ME X own (.Call zp_ [a] [] ab) (Oq fo fa):=⟨by
 intro J s Z H Q I ⟨G,ρ,M,R,st,e,k⟩;refine QH m.base m.few m.line OG OQ PySem.F.type_dict_get kW_;obtain⟨c1,e1,r1⟩:=cP r1;obtain⟨rfl,rfl,hM⟩:=cI q1 e1;cases rx;obtain⟨t1,t2⟩:=lB I1 m1 x1.sub hM;refine kX!;rw[m.trees];refine NS rfl zr_;obtain⟨⟨p2,ze,td⟩,e2,r2⟩:=cP r2;obtain⟨kk,e3,r2⟩:=cP r2;obtain⟨z1,z2,f9⟩:=cI b1_ e2;cases z1;exact c5f (A:=X.A) a! I2 m2 x2.sub f9 zs! e3 λov s' I' ⟨v',r',ap⟩=>⟨v',H2,I',ap,k _ M2 v' G2 H2 r2 cL_ m2 r'⟩⟩
def Iw(fo fa fb:WE):WE:=λρ M R=>fo ρ M λd M1=>Dx hN! λ_=>fa ρ M1 λy M2=>fb ρ M2 λz M3=>Dx (Ef M3 d) λq=>Dx fK! λ_=>R ((pE!).getD z) M3
def wM(hu:au!)(ho:cr!)(ha:av_)(hb:cM!)(m:M2 X o "get" ag a b ab):ME X own (.Call zp_ ak_ [] ab) (Iw fo fa fb):=⟨by
 intro J s Z H Q I ⟨G,ρ,M,R,st,e,k⟩;refine QH m.base m.few m.line OG OQ PySem.F.type_dict_get kW_;obtain⟨c1,e1,r1⟩:=cP r1;obtain⟨rfl,rfl,hM⟩:=cI q1 e1;cases rx;obtain⟨t1,t2⟩:=lB I1 m1 x1.sub hM;refine kX!;rw[m.trees];refine NS rfl (OE (MO (ha.run I1 fL! r1 λy M2 yv G2 H2 iv s2 r2 x2 m2 q2 I2 ry=>
  MO zu!)))
 obtain⟨⟨p2,ze,td⟩,e2,r3⟩:=cP r3;obtain⟨kk,e3,r3⟩:=cP r3;obtain⟨z1,z2,f9⟩:=cI zv_ e2;cases z1;exact c5e (A:=X.A) a! I3 m3 x3.sub f9 zv! e3 zw! λov s' I' ⟨v',r',ap⟩=>⟨v',H3,I',ap,k _ M3 v' G3 H3 r3 pG! m3 r'⟩⟩
def Hi(fo fa fb:WE):WE:=λρ M R=>fo ρ M λd M1=>Dx hN! λ_=>fa ρ M1 λy M2=>fb ρ M2 λz M3=>Dx (Ef M3 d) λq=>Dx fK! λ_=>q.2.1.length<big/\
 match kget q.2.1 y with
 |some v=>R v M3
 |none=>R z (Bd M3 q.1 (.dct (As q.2.1 y z) (q.2.2+1)))
def zR(hu:au!)(ho:cr!)(ha:av_)(hb:cM!)(m:M2 X o "setdefault" ag a b ab):ME X own (.Call (.Attribute o "setdefault" ag) ak_ [] ab) (Hi fo fa fb):=⟨by
 intro J s Z H Q I ⟨G,ρ,M,R,st,e,k⟩;refine QH m.base m.few m.line OG RT PySem.F.type_dict_setdefault kW_;obtain⟨c1,e1,r1⟩:=cP r1;obtain⟨rfl,rfl,hM⟩:=cI q1 e1;cases rx;obtain⟨t1,t2⟩:=lB I1 m1 x1.sub hM;refine kX!;rw[m.trees];refine NS rfl (OE (MO (ha.run I1 fL! r1 λy M2 yv G2 H2 iv s2 r2 x2 m2 q2 I2 ry=>
  MO zu!)))
 obtain⟨⟨p2,ze,td⟩,e2,r3⟩:=cP r3;obtain⟨kk,e3,hl,r3⟩:=cP r3;obtain⟨z1,z2,f9⟩:=cI zv_ e2;cases z1;have li:=(cL_).trans x3 m2;refine yU (A:=X.A) a! I3 m3 x3.sub f9 zv! e3 zw! hl (λw ov s' hw I' ⟨v',r',ap⟩=>?_) λhn au s' I' c'=>?_
 .dsimp only at r3;rw[hw]at r3;exact⟨v',H3,I',ap,k _ M3 v' G3 H3 r3 li m3 r'⟩
 .dsimp only at r3;rw[hn]at r3;exact⟨zv,_,I',rz,k _ _ zv G3 _ r3 (li.trans (.write m3 x3.sub f9) m3) (m3.write f9 c') q3⟩⟩
def Ym(fo fa:WE):WE:=λρ M R=>fo ρ M λd M1=>Dx hN! λ_=>fa ρ M1 λy M2=>Dx (Ef M2 d) λq=>Dx fK! λ_=>Dx pE! λv=>R v (Bd M2 q.1 (.dct (Gq q.2.1 y) (q.2.2+1)))
def b9k(hu:au!)(ho:cr!)(ha:av_)(m:M1 X o "pop" ag a ab):ME X own (.Call (.Attribute o "pop" ag) [a] [] ab) (Ym fo fa):=⟨by
 intro J s Z H Q I ⟨G,ρ,M,R,st,e,k⟩;refine QH m.base m.few m.line OG PySem.F.slot_dict_pop PySem.F.type_dict_pop kW_;obtain⟨c1,e1,r1⟩:=cP r1;obtain⟨rfl,rfl,hM⟩:=cI q1 e1;cases rx;obtain⟨t1,t2⟩:=lB I1 m1 x1.sub hM;refine kX!;rw[m.trees];refine NS rfl zr_;obtain⟨⟨p2,ze,td⟩,e2,r2⟩:=cP r2;obtain⟨kk,e3,r2⟩:=cP r2;obtain⟨w,e4,r2⟩:=cP r2;obtain⟨z1,z2,f9⟩:=cI b1_ e2;cases z1;exact c9e (A:=X.A) a! I2 m2 x2.sub f9 zs! e3 e4 λau ov s' I' c' ⟨v',r',ap⟩=>⟨v',_,I',ap,k _ _ v' G2 _ r2 ((cL_).trans (.write m2 x2.sub f9) m2) (m2.write f9 c') r'⟩⟩
def Gv:WE:=λρ M R=>∀p,M p=none->R G! fL_
def fM:ME X own (.Dict [] [] pos) Gv:=⟨by
 intro J s Z H Q I ⟨G,ρ,M,R,st,e,k⟩;have hp:H q_=none:=I.fresh;have D0:Pd zy! s.heap.objs.size [] 0:=zy_;refine wpAny_Dict_empty ⟨dd!,upd H s.heap.objs.size zz!,zA_,rfl,?_⟩
 .obtain⟨⟨o,z1,z2,z3⟩,z4⟩:=z;exact ps!
 .exact k _ _ _ G _ (e _ (st.mr.nocell hp)) (.laid st.or.sub hp) (st.mr.laid hp st.or.sub zC!) Au.fn⟩
end
abbrev WP:=Ad->Mh->(List aF_->Mh->Prop)->Prop
def Zx(K:xB!)(G:Hp):List aF_->List pJ!->Prop:=Paired λp q=>Cy K G p.1 q.1/\Cy K G p.2 q.2
structure MP(X:Cx)(own:m_)(pos:Pos)(keys:List (Option Expr))(jn:bM!)(f:WP):Prop where
 ok:∀(J:n_) (s:xA!) (Z:St) (G H:Hp) (ρ:Ad) (M:Mh) (R:zC_) (Q:List pJ!->Shared->Prop),Inv X J Z H s->Tl X.prog X.w X.K own G H Z ρ M->f ρ M R->
  (∀kvs M' G' H' us s',R kvs M'->XM M G H M' G' H'->MR X.prog X.w X.K M' G' H'->Zx X.K G' kvs us->Inv X J Z H' s'->Q us s')->wpAny e_ X.A (evalPairs (pairTrees keys jn X.env pos)) Q X.xe s
section
variable{X:Cx}{own:List Nat}{e o a b:Expr}{es:List Expr}{pos ag ab p:Pos}{f fa fb fo:WE}{fs:WA}{fp:WP}{keys:List (Option Expr)}{jn:List Expr}
def No:WP:=λ_ M R=>R [] M
def El(fa fb:WE)(fp:WP):WP:=λρ M R=>fa ρ M λx M1=>fb ρ M1 λy M2=>fp ρ M2 λkvs M3=>R ((x,y)::kvs) M3
def wI:MP X own pos [] [] No:=⟨λJ s Z G H ρ M R Q I st e k=>pairTrees_nil_walk (k [] M G H [] s e pn_ st.mr .nil I)⟩
def iG(ha:av_)(hb:cM!)(hp:zD_):MP X own pos (some a::keys) (b::jn) (El fa fb fp):=⟨λJ s Z G H ρ M R Q I st e k=>
 pairTrees_cons_walk (ha.run I st e λx M1 v G1 H1 u s1 r1 x1 m1 q1 I1 ru=>hb.run I1 fL! r1 λy M2 v2 G2 H2 u2 s2 r2 x2 m2 q2 I2 ZA=>
  hp.ok J s2 Z G2 H2 ρ M2 _ _ I2 zt_ r2 λkvs M3 G3 H3 us s3 r3 x3 m3 q3 I3=>
   k _ M3 G3 H3 _ s3 r3 pG! m3 (.cons ⟨⟨v,(b1_).mono x3.g,ru⟩,⟨v2,q2.mono x3.g,ZA⟩⟩ q3) I3)⟩
def iT:∀{l:h_} {d x:D},d∉l.map b_->As l d x=l++[dx_]
 |[],_,_,_=>rfl
 |(y,z)::l,d,x,h=>by
  rw[HZ,HQ,OX]at h;unfold As;rw[kZ!,iT h.2];rfl
def wY:∀{l:h_} {d:D},d∉l.map b_->kget l d=none
 |[],_,_=>rfl
 |(y,z)::l,d,h=>by
  rw[HZ,HQ,OX]at h;unfold kget;rw[kZ!,wY h.2]
def zB{J:n_}{Z:St}{G:Hp}{A:x9!}{E:p_}(hu:at!):∀{kvs:h_} {us:List pJ!} {acc:h_} {H:Hp} {s:xA!} {M:Mh} {n:Nat} {Q:zE_},Zx X.K G kvs us->Inv X J Z H s->MR X.prog X.w X.K M G H->Bj G H->
  M c=some (.dct acc n)->cO_+aG!<=1000->(∀p∈kvs,(Dc p.1).isSome=true)->((acc++kvs).map b_).Nodup->
  (∀H' s',Inv X J Z H' s'->XM M G H zF! G H'->MR X.prog X.w X.K zF! G H'->Q PUnit.unit s')->
  wpAny e_ A (forIn us PUnit.unit λ(x:Value×Value) (_:PUnit)=>(do dictSet c x.1 x.2;pure (ForInStep.yield PUnit.unit):Sem zG!)) Q E s
 |_,_,acc,H,s,M,n,Q,.nil,I,m,sub,hM,hl,hk,nd,k=>by
  rw[PN];have hc:Bd M c (.dct (acc++[]) (n+0))=M:=by
   funext b;unfold Bd;split
   .rename_i e;rw[e,JC,hM];rfl
   .rfl
  have k:=k H s I;rw[MN,hc]at k;exact HN (k (.refl sub) m)
 |(d,x)::kvs,(u,v)::us,acc,H,s,M,n,Q,.cons r t,I,m,sub,hM,hl,hk,nd,k=>by
  rw[NI];obtain⟨kk,hd⟩:=PV.mp (hk _ HV);have pz:d∉acc.map b_:=λz=>by
   rw[IW,JB]at nd;exact nd.2.2 d z d d_ rfl
  simp only[IH]at hl;refine HL (HL (c1g hu I m sub hM r.1 hd r.2 (IV a! (show 1001<=big by decide)) λau s' I' c'=>HN ?_));have wg:Gp acc d n=n+1:=by unfold Gp;rw[wY pz];simp
  rw[wg,iT pz]at c';rw[wg]at I';have m':=m.write hM c';have ZB:Bj G (upd H c (dE c au cJ!)):=(XM.write (c:=.dct (acc++[dx_]) cJ!) m sub hM).sub;refine zB hu t I' m' ZB mup_same zG_ (λp hp=>hk p jC_) (by rw[JL];exact nd) λH2 s2 I2 x2 m2=>?_;have hc:Bd (Bd M c (.dct (acc++[dx_]) cJ!)) c (.dct (acc++[dx_]++kvs) (n+1+aG!))=Bd M c (.dct (acc++dx_::kvs) (n+(dx_::kvs).length)):=by
   funext b;unfold Bd;split
   .rw[JL,IH];simp only[List.singleton_append];rw[show n+1+kvs.length=n+(kvs.length+1)by omega]
   .rfl
  rw[hc]at x2 m2;exact k H2 s2 I2 ((XM.write m sub hM).trans x2 m') m2
def Ph(fp:WP):WE:=λρ M R=>∀p,M p=none->fp ρ fL_ λkvs M1=>M1 p=some A_/\aG!<=1000/\(∀q∈kvs,(Dc q.1).isSome=true)/\(fE_).Nodup/\R G! (Bd M1 p (.dct kvs aG!))
def qB(hu:au!)(hp:zD_)(fw:keys.all (·.isSome)=true:=by rfl)(hl:keys.length=jn.length:=by rfl)(h0:keys≠[]:=by simp)(h15:keys.length<=15:=by decide):ME X own (.Dict keys jn pos) (Ph fp):=⟨by
 intro J s Z H Q I ⟨G,ρ,M,R,st,e,k⟩;have hn:=pairTrees_length keys jn X.env pos fw hl;have dz:pairTrees keys jn X.env pos≠[]:=λz=>by rw[z]at hn;exact h0 (OI.mp hn.symm)
 rw[arm_eval_Dict,zip_pairTrees keys jn X.env pos fw hl,dictDisplay_pairs _ dz a!];unfold subDict;have hf:H q_=none:=I.fresh;have D0:Pd zy! s.heap.objs.size [] 0:=zy_;have I1:Inv X J Z pK_ {s with heap:=s.heap.push {cls:=.type "dict",data:=.dict #[]}}:=by
  refine zA_;obtain⟨⟨o,z1,z2,z3⟩,z4⟩:=z;exact ps!
 have x0:XM M G H zH_ G pK_:=.laid st.or.sub hf;have m0:MR X.prog X.w X.K zH_ G pK_:=st.mr.laid hf st.or.sub zC!;refine HL (QM (HL (HL (wpAny_alloc (HL (JS ?_))))));rw[S_];refine HL (hp.ok J _ Z G _ ρ _ _ _ I1 (st.grow x0 m0) (e _ (st.mr.nocell hf)) λkvs M1 G1 H1 us s1 r1 x1 m1 q1 I2=>?_);obtain⟨hM1,am,hk,nd,r1⟩:=r1;refine JS (HL (zB (A:=X.A) (acc:=[]) a! q1 I2 m1 x1.sub hM1 (by simpa using am) hk nd λH2 s2 I3 x2 m2=>HN (HN (HN ⟨dd!,H2,I3,rfl,?_⟩))));have VG:=(x0.trans x1 m0).trans x2 m1;simp only[KZ,RO]at VG m2;exact k _ _ _ G1 H2 r1 VG m2 Au.fn⟩
end
abbrev WS:=Ad->Mh->(Fl->Mh->Prop)->Prop
structure Jt(P:x4!)(w:x5!)(K:xB!)(own:m_)(M0:Mh)(G0 F0:Hp)(M:Mh)(G H:Hp)(Z:St)(ρ:Ad):Prop where
 st:Tl P w K own G H Z ρ M
 x:XM M0 G0 F0 M G H
 fr:∀i∈own,∀p,Z[i]?=some cj_->F0 p=none
inductive DM(P:x4!)(w:x5!)(K:xB!)(M0:Mh)(G0 F0:Hp)(own hx:m_)(f:WS)(E:Vs)(Z:St)(H:Hp):Prop
 |mk (G:Hp) (ρ:Ad) (M:Mh) (R:j_) (st:b3!) (e:hE_) (a:∀ρ' M' G' σ H',R cP! M'->Jt P w K hx M0 G0 F0 M' G' H' σ ρ'->E.nx σ H') (b:∀d M' v G' H',R bq! M'->XM M0 G0 F0 M' G' H'->MR P w K M' G' H'->Au K G' d v->E.rt v H'):DM P w K M0 G0 F0 own hx f E Z H
structure MS(X:Cx)(own hx:m_)(st:Stmt)(f:WS):Prop where
 ok:∀M0 G0 F0,PS X st zI!
structure Vq(X:Cx)(own hx:m_)(st:b6!)(f:WS):Prop where
 ok:∀M0 G0 F0,Uv X st zI!
section
variable{P:x4!}{w:x5!}{K:xB!}{own hx:List Nat}{M0 M M':Mh}{G0 F0 G H G' H':Hp}{Z σ:St}{ρ ρ':Ad}
def Jt.grow(s:b3!)(x:kH_)(m:yN!):Jt P w K own M0 G0 F0 M' G' H' Z ρ:=⟨s.st.grow x m,s.x.trans x s.st.mr,s.fr⟩
def Jt.set{i:Nat}(s:b3!)(hi:bp!)(r:cF_):Jt P w K own M0 G0 F0 M G H eH_ ck_:=by
 have ne:∀j∈own,i≠j:=λj hj z=>hi (z▸hj);refine⟨⟨s.st.or.set hi r,s.st.mr,zI_⟩,s.x,zI_⟩
 .rw[JH (ne j hj)]at e;exact s.st.dj j hj p e
 .rw[JH (ne j hj)]at e;exact s.fr j hj p e
def Gh(own:m_)(Z:St)(H:Hp):Hp:=λb=>if b∈Ka own Z then none else H b
def Jt.sr(s:b3!):SR K own G k1! G H Z ρ:=by
 refine⟨s.st.or,⟨fh_,jN_,s.st.or.sub,dr_⟩,wV!⟩
 .unfold Gh at e;show"!6"
  .cases e
  .exact e
 .unfold Gh;rw[IA (a5e hi e)]
def Jt.root(s:b3!){b:xz!}(h:b∈Ka own Z):M b=none/\F0 b=none:=by obtain⟨i,hi,q⟩:=nM h;exact⟨s.st.dj i hi b q,s.fr i hi b q⟩
def Jt.noF(s:b3!){b:xz!}(h:Gh own Z H b=none):F0 b=none:=by
 unfold Gh at h;split at h
 .rename_i hb;exact(k1_).2
 .cases hM:M0 b with
  |none=>exact s.x.free hM h
  |some c=>exact absurd h (s.st.mr.has (s.x.cells b yM!))
def Jt.cellF(s:b3!){b:xz!}{c:Pe}(h:M b=some c):Gh own Z H b=H b/\H b≠none:=by refine⟨?_,s.st.mr.has (by rw[h];simp)⟩;unfold Gh;rw[HR (λhb=>by rw[(k1_).1]at h;cases h)]
def Jt.mr'(s:b3!)(x:zJ!):MR P w K M G' H':=⟨λa c e=>by
 obtain⟨B,Y⟩:=s.st.mr.cell a c e;obtain⟨e1,e2⟩:=s.cellF e;refine yM_
 .cases q:G' a with
  |none=>rfl
  |some o=>
   rcases x.new a cg! with z|z
   .exact absurd B z
   .rw[e1]at z;exact absurd z e2
 .cases q:H a with
  |none=>exact absurd q e2
  |some o=>exact x.h a o (e1.trans q)⟩
def Jt.x'(s:b3!)(x:zJ!):XM M0 G0 F0 M G' H':=by
 refine⟨s.x.g.trans x.g,x.sub,bo!,zJ_,s.x.dom,s.x.cells⟩
 .obtain z|z:=x.new b h
  .exact s.x.new b z
  .exact pL!
 .have B:=s.x.keep b o e hb;refine x.h b o ?_;unfold Gh;rw[zK!];exact B
def Jt.after(s:b3!)(r:SR K hx G k1! G' H' σ ρ'):Jt P w K hx M0 G0 F0 M G' H' σ ρ':=
 ⟨⟨r.or,s.mr' r.ext,λi hi p e=>by
  cases q:M p with
  |none=>rfl
  |some c=>
   obtain⟨e1,e2⟩:=s.cellF q;have:=r.fr i hi p e;rw[e1]at this;exact absurd this e2⟩,s.x' r.ext,λi hi p e=>s.noF (r.fr i hi p e)⟩
end
section
variable{X:Cx}{own bh jk:List Nat}{st:Stmt}{rest body:List Stmt}{e a b c tg o:Expr}{es:List Expr}{pos p2:Pos}{f fa fb fc fo:WE}{fs:WA}{ft fu:WT}{q1 q2 q3:WS}{q:Ad->Option Fl}
def pY{t:TS}(h:iv_)(hw:∀M0 G0 F0 E Z G H ρ M R,Jt X.prog X.w X.K own M0 G0 F0 M G H Z ρ->q1 ρ M R->
  (∀ρ' M' G' σ H',R cP! M'->Jt X.prog X.w X.K bh M0 G0 F0 M' G' H' σ ρ'->E.nx σ H')->(∀d M' v G' H',R bq! M'->XM M0 G0 F0 M' G' H'->MR X.prog X.w X.K M' G' H'->Au X.K G' d v->E.rt v H')->t E Z H):MS X own bh st q1:=
 ⟨λM0 G0 F0 J s Z H E I ⟨G,ρ,M,R,sr,e,k1,k2⟩=>h J s Z H E I (hw M0 G0 F0 E Z G H ρ M R sr e k1 k2)⟩
def Tp(q:aS!):WS:=λρ M R=>Dx (q ρ) λr=>R r M
def a9x(h:DS X own bh st q):MS X own bh st (Tp q):=⟨λM0 G0 F0 J s Z H E I ⟨G,ρ,M,R,sr,e,k1,k2⟩=>by
 obtain⟨r,e1,e2⟩:=cP e;refine h.ok G k1! J s Z H E I ⟨G,ρ,r,sr.sr,e1,?_⟩;cases r with
 |nx ρ'=>exact λG' σ H' cj=>k1 ρ' M G' σ H' e2 (sr.after cj)
 |rt d=>exact λv G' H' x r=>k2 d M v G' H' e2 (sr.x' x) (sr.mr' x) r⟩
def Bq:WS:=λρ M R=>R aM_ M
def Ah(q1 q2:WS):WS:=λρ M R=>q1 ρ M λr M1=>match r with|.nx ah=>q2 ah M1 R|.rt d=>R bq! M1
def bO:Vq X own own [] Bq:=⟨λM0 G0 F0 J s Z H E I ⟨G,ρ,M,R,sr,e,k1,k2⟩=>b1y J s Z H E I (k1 ρ M G Z H e sr)⟩
def aF(B:zM_)(Y:Vq X bh jk rest q2):Vq X own jk mb! (Ah q1 q2):=⟨λM0 G0 F0 J s Z H E I ⟨G,ρ,M,R,sr,e,k1,k2⟩=>
 a5p pL_ zN! J s Z H E I ⟨G,ρ,M,_,sr,e,λρ' M' G' σ H' r eh=>⟨G',ρ',M',R,eh,r,k1,k2⟩,λd M' v G' H' r x m q=>k2 d M' v G' H' r x m q⟩⟩
def aG(B:zM_):Vq X own bh [st] q1:=⟨λM0 G0 F0=>b1x pL_⟩
def Jt.free{P:x4!}{w:x5!}{K:xB!}{M0 M:Mh}{G0 F0 G H:Hp}{Z:St}{ρ:Ad}(s:b3!):Jt P w K [] M0 G0 F0 M fi_ H Z ρ:=by
 have o:=s.st.or.full;have sG:Bj G fi_:=λb u e=>by
  unfold Lc;split
  .exact s.st.or.sub b u e
  .exact e
 refine⟨⟨o,⟨λa c e=>?_⟩,as!⟩,⟨s.x.g.trans sG,o.sub,bo!,s.x.keep,s.x.dom,s.x.cells⟩,as!⟩
 .obtain⟨B,Y⟩:=s.st.mr.cell a c e;refine⟨?_,Y.mono sG rfl⟩;unfold Lc;rw[HR (λhb=>by rw[(k1_).1]at e;cases e)];exact B
 .unfold Lc at h;split at h
  .rename_i hb;exact .inr (k1_).2
  .exact s.x.new b h
def pW(h:Vq X [] jk rest q1):Vq X own jk rest q1:=⟨λM0 G0 F0 J s Z H E I ⟨G,ρ,M,R,sr,e,k1,k2⟩=>h.ok M0 G0 F0 J s Z H E I ⟨_,ρ,M,R,sr.free,e,k1,k2⟩⟩
def Ay(f:WE):WS:=λρ M R=>f ρ M λd M1=>R bq! M1
def bG(h:b1!):MS X own bh mb_ (Ay f):=pY (b7r h.ok) λM0 G0 F0 E Z G H ρ M R sr e k1 k2=>
 ⟨G,ρ,M,_,sr.st,e,λd M' v G' H' r x m q=>k2 d M' v G' H' r (sr.x.trans x sr.st.mr) m q⟩
def Qc:WS:=λ_ M R=>R (.rt .non) M
def a2f:MS X own bh rI! Qc:=pY c2x λM0 G0 F0 E Z G H ρ M R sr e k1 k2=>k2 _ M _ G H e sr.x sr.st.mr Au.non
def An(i:Nat)(f:WE):WS:=λρ M R=>f ρ M λd M1=>R pN! M1
def aY{i:Nat}(hN:bx!)(hi:ap_)(O:bx_)(h:b1!)(bq:bp!:=by decide)(hs:wJ!:=by rfl)
  (hf:X.fn x=true\/X.env.scope.names.lookup x=some .local:=by first|exact .inl rfl|exact .inr rfl|assumption):MS X own own wJ_ (An i f):=
 pY wK! λM0 G0 F0 E Z G H ρ M R sr e k1 k2=>⟨G,ρ,M,_,sr.st,e,λd M' v G' H' r x m q=>k1 _ M' G' _ H' r ((pN_).set bq q)⟩
def Aq(ft:WT)(q1 q2:WS):WS:=λρ M R=>ft ρ M λb M1=>if b then q1 ρ M1 R else q2 ρ M1 R
def cF{b1 b2:b6!}(hc:pp_)(B:Vq X own bh b1 q1)(Y:Vq X own bh b2 q2):MS X own bh wK_ (Aq ft q1 q2):=⟨λM0 G0 F0 J s Z H E I ⟨G,ρ,M,R,sr,e,k1,k2⟩=>by
 refine c5y hc.ok pL_ zN! J s Z H E I ⟨G,ρ,M,_,sr.st,e,λb M' G' H' r x m=>?_⟩;cases b with
 |true=>exact mM zQ!
 |false=>exact mN zQ!⟩
def Bu(f:WE):WS:=λρ M R=>f ρ M λ_ M1=>R aM_ M1
def cQ(h:b1!)(hs:rH_:=by rfl):MS X own own (.Expr e pos) (Bu f):=
 pY (uK h.ok hs) λM0 G0 F0 E Z G H ρ M R sr e k1 k2=>⟨G,ρ,M,_,sr.st,e,λd M' v G' H' r x m q=>k1 ρ M' G' Z H' r pN_⟩
def Gz:WS:=λ_ _ _=>False
def iS:MS X own bh st Gz:=⟨λM0 G0 F0 J s Z H E I ⟨G,ρ,M,R,sr,e,k1,k2⟩=>e.elim⟩
def Fh(C:xz!)(x:Str)(fo f:WE):WS:=λρ M R=>f ρ M λy M1=>fo ρ M1 λd M2=>match d with
 |.fn p=>(match M2 p with|some (.obj C' fs)=>C'=C/\bv_<100/\R aM_ (Bd M2 p pP!)|_=>False)
 |_=>False
def gE(c:dV_)(n:Eg X.K C x)(ho:cr!)(h:b1!)(hs:swapsWith e (some (.Attribute o x p2)) pos.line X.env=pure false:=by rfl):MS X own own (.Assign [.Attribute o x p2] e pos) (Fh C x fo f):=
 pY (c7d ho.ok h.ok hs) λM0 G0 F0 E Z G H ρ M R sr e k1 k2=>⟨G,ρ,M,_,sr.st,e,λy M1 v G1 H1 r1 x1 m1 q1=>⟨G1,ρ,M1,_,sr.st.grow x1 m1,r1,λd M2 u G2 H2 r2 x2 m2 q2=>by
  cases d<;>first|exact r2.elim|skip
  rename_i p;cases fZ q2;dsimp only at r2;split at r2
  .rename_i C' fs hM;obtain⟨hC,hl,r2⟩:=r2;subst hC;obtain⟨_,dx,vs,h3,h4⟩:=m2.cell p _ hM;have am:bv_=bB_:=NA h4;exact⟨p,_,dx,vs,rfl,h3,c,n,t_,k1 ρ _ G2 Z _ r2 ((zR_).grow (.write m2 x2.sub hM) (m2.write hM ⟨dx,_,bV,b3a b1_ h4⟩))⟩
  .exact r2.elim⟩⟩
def Lf(M:Mh)(d y v:D):Option Mh:=match d with
 |.fn p=>match M p with
  |some (.dct kvs ep)=>if(fK!).isSome&&decide (aG!<big)then some hP! else none
  |some (.lst xs)=>match y with
   |.int j=>(Ea xs.length j).map λk=>Bd M p (.lst (xs.set k v))
   |_=>none
  |_=>none
 |_=>none
def BV(P:x4!)(w:x5!)(K:xB!):V->V->V->Hp->mc!->Prop:=λo i v H Q=>∃(M:Mh) (G:Hp) (a:xz!) (kvs:h_) (ep:Nat) (d x:D) (k:MK),o=.ref a/\Bj G H/\MR P w K M G H/\M a=some hH!/\Au K G d i/\Dc d=some k/\Au K G x v/\aG!<big/\
 ∀au,Hh P w K G kM_ a y4_->Q kM_
def c2l(hu:au!):Wq X (BV X.prog X.w X.K):=by intro J s Z H o i v ov iv u Q I ro ri rv h;obtain⟨M,G,a,kvs,ep,d,x,k,rfl,sub,m,e,r,hk,rx,hl,q⟩:=h;cases ro;exact b0s (A:=X.A) a! I m sub e ⟨_,r,ri⟩ hk ⟨_,rx,rv⟩ hl λau s' I' c'=>⟨_,I',q au c'⟩
def c2v{r r':Zf}(h:Wq X r)(h':Wq X r'):Wq X (λo i v H Q=>r o i v H Q\/r' o i v H Q):=by
 intro J s Z H o i v ov iv u Q I ro ri rv q;obtain q|q:=q
 .exact h J s Z H o i v ov iv u Q I ro ri rv q
 .exact h' J s Z H o i v ov iv u Q I ro ri rv q
def Bw(fo fi f:WE):WS:=λρ M R=>f ρ M λv M1=>fo ρ M1 λd M2=>fi ρ M2 λy M3=>Dx pQ! λM4=>R aM_ M4
def dI{fi:WE}(hu:au!)(ho:cr!)(hi:ME X own i fi)(h:b1!)
  (ha:∀v,assign zS_ X.env v=(do
   let ov <-holding [v] c5!
   let iv <-holding [v,ov] rN_
   standAt p2
   holding eO_ md_
   release eO_ []):=by intro _;rfl)
  (hs:swapsWithSole k4! e pos.line X.env=pure false:=by rfl) (hw:swappedStores k4! e X.env=pure none:=by rfl)
  (B:(assignEach k4! X.env).map C_=[assign zS_ X.env]:=by rfl):MS X own own (.Assign k4! e pos) (Bw fo fi f):=
 pY (b7t h.ok (b7z ho.ok hi.ok (c2v a4w (c2l hu)) ha) hs hw B) λM0 G0 F0 E Z G H ρ M R sr e k1 k2=>⟨G,ρ,M,_,sr.st,e,λv M1 vv G1 H1 r1 x1 m1 q1=>⟨G1,ρ,M1,_,sr.st.grow x1 m1,r1,λd M2 dv G2 H2 r2 x2 m2 q2=>
  ⟨G2,ρ,M2,_,(sr.st.grow x1 m1).grow x2 m2,r2,λy M3 yv G3 H3 r3 x3 m3 q3=>by
   obtain⟨M4,e4,r4⟩:=cP r3;have wk:=(zR_).grow x3 m3;have qd:=q2.mono x3.g;have qv:=(b1_).mono x3.g;unfold Lf at e4;split at e4
   .rename_i p;cases fZ qd;split at e4
    .rename_i kvs ep hM;split at e4
     .rename_i hc;rw[IZ,JE]at hc;cases e4;obtain⟨kk,hk⟩:=PV.mp hc.1;exact .inr ⟨M3,G3,p,kvs,ep,y,v,kk,rfl,x3.sub,m3,hM,q3,hk,qv,hc.2,λau c'=>k1 ρ _ G3 Z _ r4 (wk.grow zT! (m3.write hM c'))⟩
     .cases e4
    .rename_i xs hM;split at e4
     .rename_i j;cases bD q3;obtain⟨n,e5,rfl⟩:=IB.mp e4;obtain⟨_,vs,h3,h4⟩:=m3.cell p _ hM;exact .inl ⟨p,vs,j,n,rfl,rfl,h3,by rw[<-aJ h4];exact e5,k1 ρ _ G3 Z _ r4 (wk.grow zT! (m3.write hM ⟨_,bV,vR qv n h4⟩))⟩
     .cases e4
    .cases e4
   .cases e4⟩⟩⟩
def Np(i:Nat)(f:WE):WS:=λρ M R=>match ρ[i]? with
 |some (some (.int a))=>f ρ M λd M1=>(match d with|.int b=>R (.nx (ρ.set i (some (.int (a+b))))) M1|_=>False)
 |_=>False
def b9f{i:Nat}(hN:bx!)(hi:ap_)(O:bx_)(h:b1!)(bq:bp!:=by decide)
  (hf:X.fn x=true\/X.env.scope.names.lookup x=some .local:=by first|exact .inl rfl|exact .inr rfl|assumption):MS X own own (.AugAssign do_ .Add e pos) (Np i f):=
 pY (c7e hN hi O h.ok c8o hf) λM0 G0 F0 E Z G H ρ M R sr e k1 k2=>by
  unfold Np at e;show"!6"
  .rename_i a oj;obtain⟨v,B,Y⟩:=sr.st.or.at_ i _ oj bq;cases bD Y;refine⟨_,B,G,ρ,M,_,sr.st,e,zV!⟩;cases d<;>first|exact r.elim|skip
   cases bD q;exact⟨a,_,rfl,rfl,k1 _ M' G' _ H' r ((pN_).set bq Au.int)⟩
  .exact e.elim
def Bz(ft:WT)(q:WS):Nat->WS
 |0=>λ_ _ _=>False
 |n+1=>λρ M R=>ft ρ M λb M1=>if b then q ρ M1 (λr M2=>match r with|.nx bg=>Bz ft q n bg M2 R|.rt d=>R bq! M2)else R aM_ M1
def Iv(ft:WT)(q:WS):WS:=λρ M R=>∃n,Bz ft q n ρ M R
def iR(hp:gi_)(hc:pp_)(hb:zV_):MS X own own rT_ (Iv ft q1):=⟨λM0 G0 F0 J s Z H E I ⟨G,ρ,M,R,sr,⟨n,e⟩,k1,k2⟩=>by
 refine b7q hp hc.ok (hb.ok M0 G0 F0) J s Z H E I ⟨λm σ H'=>∃G' ρ' M',Jt X.prog X.w X.K own M0 G0 F0 M' G' H' σ ρ'/\Bz ft q1 m ρ' M' R,⟨n,G,ρ,M,sr,e⟩,?_⟩;rintro m σ H' ⟨G',ρ',M',eh,e'⟩;cases m with
 |zero=>exact e'.elim
 |succ m=>
  refine⟨G',ρ',M',_,eh.st,e',λb M1 G1 H1 r1 x1 m1=>?_⟩;cases b with
  |true=>exact mM ⟨λcz H2=>∃G2 bg M2,Jt X.prog X.w X.K own M0 G0 F0 M2 G2 H2 cz bg/\Bz ft q1 m bg M2 R,λcz H2 h=>⟨m,QC m,h⟩,G1,ρ',M1,_,eh.grow x1 m1,r1,λbg M2 G2 cz H2 r2 zf=>⟨G2,bg,M2,zf,r2⟩,λd M2 v G2 H2 r2 x2 m2 q2=>k2 d M2 v G2 H2 r2 x2 m2 q2⟩
  |false=>exact mN (k1 ρ' M1 G1 σ H1 r1 (eh.grow x1 m1))⟩
end
def EA(P:x4!)(w:x5!)(K:xB!)(ac:It)(ds:b!)(ck:bJ!)(G1:Hp):Prop:=∀(i:Nat) (M':Mh) (G' H':Hp),Bj G1 G'->Bj G' H'->MR P w K M' G' H'->ck M'->
 wA!/\wA_
abbrev WI:=Ad->Mh->(List D->(Mh->Prop)->Mh->Prop)->Prop
inductive FW(P:x4!)(w:x5!)(K:xB!)(own:m_)(fi:WI)(Z:St)(H:Hp)(R:gj_):Prop
 |mk (G:Hp) (ρ:Ad) (M:Mh) (T:List D->(Mh->Prop)->Mh->Prop) (st:hE!) (e:fi ρ M T) (k:∀ds ck M1 ac G1 H1,T ds ck M1->XM M G H M1 G1 H1->MR P w K M1 G1 H1->EA P w K ac ds ck G1->R ac H1):FW P w K own fi Z H R
structure MI(X:Cx)(own:m_)(tg iter:Expr)(fi:WI):Prop where
 ok:PI X tg iter (FW X.prog X.w X.K own fi)
section
variable{X:Cx}{own bh jk:List Nat}{st:Stmt}{rest body:List Stmt}{e a b c tg o:Expr}{es:List Expr}{pos p2:Pos}{f fa fb fc fo:WE}{fs:WA}{fi:WI}{ft fu:WT}{q1 q2 q3:WS}{di:Ad->Option (List D)}
def c6c{wi:TI}(h:PI X tg e wi)(hw:∀Z G H R ρ M T,Tl X.prog X.w X.K own G H Z ρ M->fi ρ M T->(∀ds ck M1 ac G1 H1,T ds ck M1->XM M G H M1 G1 H1->MR X.prog X.w X.K M1 G1 H1->EA X.prog X.w X.K ac ds ck G1->R ac H1)->wi Z H R):MI X own tg e fi:=
 ⟨λJ s Z H R I ⟨G,ρ,M,T,st,e,k⟩=>h J s Z H R I (hw Z G H R ρ M T st e k)⟩
def Jg(di:as_):WI:=λρ M T=>Dx (di ρ) λds=>T ds ab! M
def Zi.m{K:xB!}{ac:It}{G1:Hp}(h:Zi K ac ds G1):EA P w K ac ds ab! G1:=λi M' G' H' s1 s2 _ _=>h i G' H' s1 s2
def oV(h:DI X own tg e di):MI X own tg e (Jg di):=c6c h.ok λZ G H R ρ M T st e k=>by
 obtain⟨ds,e1,e2⟩:=cP e;exact⟨G,ρ,ds,st.or,e1,λac G1 H1 x f8=>k ds _ M ac G1 H1 e2 (.ext x) pm_ f8.m⟩
def Cs(f:WE):WI:=λρ M T=>f ρ M λd M1=>match d with
 |.lst xs=>T xs ab! M1
 |.fn p=>(match M1 p with|some (.lst xs)=>T xs (λM=>M p=some R!) M1|_=>False)
 |_=>False
def eR(h:av_):MI X own tg a (Cs fa):=c6c (b2c h.ok) λZ G H R ρ M T st e k=>⟨G,ρ,M,_,st,e,λd M1 v G1 H1 r1 x1 m1 q1=>by
 cases d<;>first|exact r1.elim|skip
 .obtain⟨p,vs,rfl,q,rr⟩:=bU q1;exact⟨p,rfl,⟨vs,x1.sub.seq q⟩,k _ _ M1 _ G1 H1 r1 x1 m1 (a6y q rr).m⟩
 .rename_i p;cases fZ q1;dsimp only at r1;split at r1
  .rename_i xs hM;obtain⟨_,vs,B,Y⟩:=m1.cell p _ hM;refine⟨p,rfl,⟨vs,Fn.of B⟩,k _ _ M1 _ G1 H1 r1 x1 m1 λi M' G' H' s1 s2 m' ck=>?_⟩;obtain⟨_,gg,h3,h4⟩:=m'.cell p _ ck;have q':Fn X.K H' p gg:=Fn.of h3;refine⟨el!,λhi=>⟨gg,q',by rw[<-aJ h4,hi];exact IQ _⟩⟩;obtain⟨v,g1,g2⟩:=iN h4 hd;refine⟨⟨gg,v,q',g1⟩,hf_⟩;obtain⟨e1,e2⟩:=hy;subst e1;have:=e2 gg q';rw[g1]at this;cases this;exact⟨G',j2!,g2⟩
  .exact r1.elim⟩
def Hg(bnd:an!)(ck:bJ!)(q:WS):List D->WS
 |[]=>λρ M R=>ck M/\R aM_ M
 |d::ds=>λρ M R=>ck M/\Dx j2_ λah=>q ah M λr M1=>match r with|.nx bg=>Hg bnd ck q ds bg M1 R|.rt d=>R bq! M1
def Dd(fi:WI)(bnd:an!)(q:WS):WS:=λρ M R=>fi ρ M λds ck M1=>Hg bnd ck q ds ρ M1 R
def FR(K:xB!)(own:m_)(g:TG)(bnd:an!):Prop:=∀{P:x4!} {w:x5!} {x:V} {d:D} {Z:St} {M0 M:Mh} {G0 F0 G H:Hp} {ρ ah:Ad} {Q:ix_},Jt P w K own M0 G0 F0 M G H Z ρ->Au K G d x->bnd d ρ=some ah->(∀dr,Jt P w K own M0 G0 F0 M G H dr ah->Q dr H)->g x Z H Q
def cZ{K:xB!}(i:Nat)(hi:bp!:=by decide):FR K own eO! (Bx i):=by intro P w x d Z M0 M G0 F0 G H ρ ah Q sr r e k;cases e;exact k _ (sr.set hi r)
def Wh(i j:Nat):D->Ad->Option Ad:=λd ρ=>match d with|.tup [x,y]=>some ((ρ.set i gh!).set j (some y))|_=>none
def c0k{K:xB!}(i j:Nat)(hi:bp!:=by decide)(hj:j∉own:=by decide):FR K own wD! (Wh i j):=by
 intro P w x d Z M0 M G0 F0 G H ρ ah Q sr r e k;unfold Wh at e;show"!6"
 .cases e;show"!X";show"!4";exact⟨p,[v1,v2],rfl,cB sr.st.or.sub q,rfl,v1,[v2],rfl,v2,[],rfl,rfl,k _ ((sr.set hi r1).set hj r2)⟩
 .cases e
def Jt.base{K:xB!}{M0 M1:Mh}{G0 F0 G1 H1:Hp}{Z:St}{ρ:Ad}(s:pR_):Jt P w K own M1 G1 hS_ M1 G1 H1 Z ρ:=
 ⟨s.st,⟨Bj.refl _,s.st.or.sub,dr_,λb o e _=>s.sr.ext.h b o e,dr_,λb h=>h⟩,λi hi p e=>s.sr.fr i hi p e⟩
def Jt.unx{K:xB!}{M0 M1 M':Mh}{G0 F0 G1 H1 G' H':Hp}{Z:St}{ρ:Ad}(s:pR_)(y:XM M1 G1 hS_ M' G' H'):XM M0 G0 F0 M' G' H':=by
 refine⟨s.x.g.trans y.g,y.sub,bo!,zJ_,bo!,λb h=>y.cells b (s.x.cells b h)⟩
 .obtain z|z:=y.new b h
  .exact s.x.new b z
  .exact pL!
 .refine y.keep b o ?_ ?_
  .unfold Gh;rw[zK!];exact s.x.keep b o e hb
  .cases q:M1 b with
   |none=>rfl
   |some c=>
    rcases s.x.dom b cg! with z|z
    .exact absurd hb z
    .rw[e]at z;cases z
 .obtain z|z:=y.dom b h
  .exact s.x.dom b z
  .exact pL!
def Jt.unbase{K:xB!}{M0 M1 M':Mh}{G0 F0 G1 H1 G' H':Hp}{Z σ:St}{ρ ρ':Ad}(s:pR_)(s':Jt P w K bh M1 G1 hS_ M' G' H' σ ρ'):Jt P w K bh M0 G0 F0 M' G' H' σ ρ':=
 ⟨s'.st,s.unx s'.x,λi hi p e=>s.noF (s'.fr i hi p e)⟩
def eO{g:TG}{bnd:an!}(hp:gi_)(hc:a6_)(ax:pS!)(hg:me!)(nu:FR X.K own g bnd)(hb:zV_)
  (hs:c6_:=by intro _;rfl):MS X own own sd_ (Dd fi bnd q1):=⟨λM0 G0 F0 J s Z H E I ⟨G,ρ,M,R,sr,e,k1,k2⟩=>by
 have df:Uv X body (λE Z H=>∃A h1 C,DM X.prog X.w X.K A h1 C own own q1 E Z H):=λJ s Z H E I ⟨A,h1,C,h⟩=>hb.ok A h1 C J s Z H E I h;refine b7s hp hc ax.ok hg df hs J s Z H E I ⟨G,ρ,M,_,sr.st,e,λds ck M1 ac G1 H1 r1 x1 m1 f8=>?_⟩;have zg:=sr.grow x1 m1;refine⟨λn m σ H'=>n<=f_/\m=f_ - n/\∃G' ρ' M',Jt X.prog X.w X.K own M1 G1 hS_ M' G' H' σ ρ'/\Hg bnd ck q1 nW! ρ' M' R,
  ⟨f_,JU _,rfl,G1,ρ,M1,zg.base,r1⟩,?_⟩
 rintro n m σ H' ⟨hn,rfl,G',ρ',M',eh,e3⟩;have ez:ck M':=by
  cases hd:ds.drop n with
  |nil=>rw[hd]at e3;exact e3.1
  |cons _ _=>rw[hd]at e3;exact e3.1
 obtain⟨ng,nh⟩:=f8 n M' G' H' eh.x.g eh.st.or.sub eh.st.mr ez;by_cases ai:n<f_
 .right;have hd:ds[n]?=some ds[n]:=by simp[ai]
  rw[LC ai]at e3;obtain⟨_,e3⟩:=e3;obtain⟨ah,e4,e3⟩:=cP e3;obtain⟨go,yl⟩:=ng _ hd;refine⟨go,λcz H2=>∃G2 bg M2,Jt X.prog X.w X.K own M1 G1 hS_ M2 G2 H2 cz bg/\Hg bnd ck q1 (ds.drop cJ!) bg M2 R,λcz H2 ⟨G2,bg,M2,B,h3⟩=>⟨f_ - cJ!,t_,ai,rfl,G2,bg,M2,B,h3⟩,j3_⟩;obtain⟨G2,x2,r2⟩:=yl v H2 hy;have zf:=eh.grow kU_ (eh.st.mr.ext x2);exact nu zf r2 e4 λgq wk=>⟨M1,G1,Gh own Z H1,G2,ah,M',_,wk,e3,λtf M4 G4 σ4 H4 r4 ZC=>⟨G4,tf,M4,ZC,r4⟩,λd M4 v G4 H4 r4 x4 m4 q4=>k2 d M4 v G4 H4 r4 (zg.unx x4) m4 q4⟩
 .left;have io:n=f_:=by omega
  refine ow_;rw[io,QE]at e3;exact k1 ρ' M' G' σ H' e3.2 (zg.unbase eh)⟩
def Sl(bnd:an!)(ck:bJ!)(ft:WT)(fe:WE)(ρ:Ad):List D->Mh->yO!->Prop
 |[],M,R=>ck M/\R [] M
 |d::ds,M,R=>ck M/\Dx j2_ λah=>ft ah M λb M1=>if b then fe ah M1 λy M2=>Sl bnd ck ft fe ρ ds M2 λys M3=>R (y::ys) M3 else Sl bnd ck ft fe ρ ds M1 R
def Ca(nl:Nat)(ix:m_)(fi:WI)(bnd:an!)(ft:WT)(fe:WE):WE:=λρ M R=>fi ρ M λds ck M1=>f_<=big/\Sl bnd ck ft fe n0! ds M1 λys M2=>R ba! M2
def b3g{K:xB!}{ac:It}{ds:b!}{ck:bJ!}{M1:Mh}{G1 H1:Hp}{g:TG}{bnd:an!}{fe:WE}{j4:Ad}{sf:St}{Fin:cZ!}{R:pl!}
  (hb:f_<=big)(f8:EA P w K ac ds ck G1)(hg:GD K g bnd)(er:Tl P w K [] G1 H1 sf j4 M1)(e:Sl bnd ck ft fe j4 ds M1 R)(k:∀jj ys M' G' H',R jj M'->XM M1 G1 H1 M' G' H'->MR P w K M' G' H'->Ao K G' jj ys->jj.length<=f_->Fin ys H'):
  Wj ac g (Zk P w K [] ft) (BJ P w K [] fe) Fin sf H1:=by
 refine⟨λi m ys σ H'=>i<=f_/\m=f_ - i/\∃G' M' ws,XM M1 G1 H1 M' G' H'/\Tl P w K [] G' H' σ j4 M'/\Ao K G' ws ys/\m9!<=i/\Sl bnd ck ft fe j4 (ds.drop i) M' λr M2=>R (ws++r) M2,
  ⟨f_,JU _,rfl,G1,M1,[],.refl er.or.sub,er,Ao.nil,JU _,e⟩,?_⟩
 rintro i m ys σ H' ⟨hi,rfl,G',M',ws,x,cj,ak,hw,e2⟩;refine wE_;have ez:ck M':=by
  cases hd:ds.drop i with
  |nil=>rw[hd]at e2;exact e2.1
  |cons _ _=>rw[hd]at e2;exact e2.1
 obtain⟨ng,nh⟩:=f8 i M' G' H' x.g cj.or.sub cj.mr ez;by_cases ai:i<f_
 .right;have hd:ds[i]?=some ds[i]:=by simp[ai]
  rw[LC ai]at e2;obtain⟨_,e2⟩:=e2;obtain⟨ah,e1,e2⟩:=cP e2;obtain⟨go,yl⟩:=ng _ hd;refine⟨go,j3_⟩;obtain⟨G2,x2,r2⟩:=yl v H2 hy;have cf:=cj.grow kU_ (cj.mr.ext x2);have ZD:XM M1 G1 H1 M' G2 H2:=x.trans kU_ cj.mr;refine hg cf.or r2 e1 λdr m9 sj=>⟨G2,ah,M',_,z1!,e2,λb M3 G3 H3 r3 x3 m3=>?_⟩;have j5:=(show Tl P w K [] G2 H2 dr ah M' from z1!).grow x3 m3;have li:=ZD.trans x3 cf.mr;cases b with
  |true=>
   refine mM ⟨G3,ah,M3,_,j5,r3,λy M4 u G4 H4 r4 x4 m4 q4=>⟨f_ - aX_,t_,ai,rfl,G4,M4,ws++[y],li.trans x4 m3,⟨(j5.grow x4 m4).or.le sj,m4,as!⟩,?_,?_,?_⟩⟩
   .exact cY wF! (Ao.cons q4 Ao.nil)
   .rw[IL,KU];omega
   .have e5:(λr M2=>R (ws++[y]++r) M2)=λr M2=>R (ws++y::r) M2:=by
     funext r M2;rw[JL];rfl
    rw[e5];exact r4
  |false=>
   exact mN ⟨f_ - aX_,t_,ai,rfl,G3,M3,ws,li,⟨j5.or.le sj,m3,as!⟩,(oq!).mono x3.g,t_,r3⟩
 .left;have io:i=f_:=by omega
  refine ow_;rw[io,QE]at e2;have this:R (ws++[]) M':=e2.2;rw[JC]at this;exact k ws ys M' G' H' this x cj.mr ak a!
def iZ{scope:Scope}{NL:p!}{ix:m_}{g:TG}{bnd:an!}{fe:WE}
  (cg:dh_)(ce:di!)(j3:∀y∈cg_,y.2=.local->scope.names.lookup y.1=some .local)
  (ie:g1!)(cap:dh!)(nj:jO_)(calm:a6_)(ax:pS!)
  (hg:g1_)(nu:oq_)(hi:z2_)(he:z3!)
  (hs:c6_:=by intro _;rfl):
  ME X own gZ! z3_:=
 eS wG_ λZ G H Q ρ M R st e k=>⟨G,ρ,M,_,st,e,λds ck M1 ac G1 H1 r1 x1 m1 f8=>by
  obtain⟨hb,r1⟩:=r1;have p5:=st.grow x1 m1;refine b3g hb f8 nu z4_ r1 λjj ys M' G' H' r x m q _ p hp=>?_;exact k _ M' _ _ _ r ((x1.trans x m1).trans (.ext hg_) m) (m.ext hg_) (dP or! q)⟩
def a6j:Py X [] (Zk X.prog X.w X.K [] λρ M R=>R true M):=λJ s Z H Q I ⟨G,ρ,M,R,st,e,k⟩=>a5r J s Z H Q I (k true M G H e pn_ st.mr)
def sZ(h:MT X [] c ft):Py X [c] z2!:=a5q h.ok
abbrev WF:=List D->Mh->yN_->Prop
def Yh(P:x4!)(w:x5!)(K:xB!)(n:Nat)(g:WF):Sp:=λvs H Q _=>bB_=n/\∃G ds M R,Bj G H/\MR P w K M G H/\Ao K G ds vs/\g ds M R/\∀d M' v G' H',R d M'->XM M G H M' G' H'->MR P w K M' G' H'->Au K G' d v->Q v H'
def La(P:x4!)(w:x5!)(K:xB!)(mg:y_)(base:Heap)(k:Nat)(x:Str)(ps:p!)(g:WF):Prop:=
 ∃hr fd,Fj P w K mg base Pz k hr fd ps pU!/\Ex K fd ps []/\mg x=some bV_/\W.keepIn K bV_=true
nonrec def gl(g:ai!):WF:=λds M R=>Dx (g ds) λd=>R d M
def Am(n:Nat)(g:WF)(fs:WA):WE:=λρ M R=>fs ρ M λds M1=>f_=n/\g ds M1 R
def aQ{k:Nat}{ps:p!}{g:WF}{x:Str}(F:La X.prog X.w X.K X.mg X.base k x ps g)(L:cb_)(hg:X!)(ha:hM!)
  (be:H!:=by decide)(he:aB_:=by rfl)(az:a7_:=by rfl):
  ME X own bC! (Am ps.length g fs):=by
 obtain⟨hr,fd,B,Y,h3,h4⟩:=F;refine eS (b2g B L hg h3 h4 Y .nil vX ha.ok be he az) λZ G H Q ρ M R st e' k=>⟨G,ρ,M,_,st,e',λds M1 vs G1 H1 r1 x1 m1 q1=>?_⟩;show Yh X.prog X.w X.K ps.length g (vs++[]) H1 Q E0;rw[JC];exact⟨by rw[<-aJ q1];exact r1.1,G1,ds,M1,R,x1.sub,m1,q1,r1.2,yW!⟩
def Dt(P:x4!)(w:x5!)(K:xB!)(mg:y_)(base:Heap)(k:Nat)(C:xz!)(m:Str)(ps:p!)(g:WF):Prop:=
 Vb K C/\∃hr fd,Ws K C m hr/\Fj P w K mg base Pz k hr fd ps pU!/\Ex K fd ps []
def Dg(C:xz!)(m:Str)(M:Mh)(d:D):Prop:=match d with
 |.fn p=>(match M p with|some (.obj C' fs)=>C'=C/\fs.lookup m=none|_=>False)
 |_=>False
def a7a{K:xB!}{M:Mh}{G H:Hp}(mr:co_)(r:cF_)(h:k7_):∃p dx vs,d=.fn p/\v=.ref p/\H p=some yJ_/\vs.lookup m=none:=by
 unfold Dg at h;split at h
 .rename_i p;cases fZ r;split at h
  .rename_i C' fs hM;obtain⟨rfl,hl⟩:=h;obtain⟨_,dx,vs,B,Y⟩:=mr.cell p _ hM;exact⟨p,dx,vs,rfl,rfl,B,a7i Y hl⟩
  .exact h.elim
 .exact h.elim
def Ba(C:xz!)(m:Str)(n:Nat)(g:WF)(fo:WE)(fs:WA):WE:=λρ M R=>fo ρ M λd M1=>Dg C m M1 d/\fs ρ M1 λds M2=>f_+1=n/\g ed_ M2 R
def bR{k:Nat}{ps:p!}{g:WF}{ag:Pos}{pl:dU_}(F:z5!)(L:cb_)(ho:cr!)(ha:hM!)
  (bv:aB_:=by rfl)(az:a7_:=by rfl)
  (ht:eval i0! X.env=(do
   let ov <-eval o X.env
   standAt gx_
   let(f,first) <-holding [ov] gy!
   callWith pos f first rC_ eZ_):=by rfl):ME X own i0! (Ba C m ps.length g fo fs):=by
 obtain⟨cl,hr,fd,B,Y,h3⟩:=F;refine eS (c3d (pl:=pl) ho.ok cl B Y L h3 .nil vX ha.ok bv az ht) λZ G H Q ρ M R st e' k=>z6!;show"!m";refine⟨p,dx,vs,rfl,hH,hl,G1,ρ,M1,_,kI_,r1,λds M2 us G2 H2 r2 x2 m2 q2=>?_⟩;show Yh X.prog X.w X.K ps.length g (.ref p::(us++[])) H2 Q E0;rw[JC];exact⟨by rw[IH,<-aJ q2];exact r2.1,G2,.fn p::ds,M2,R,x2.sub,m2,Ao.cons Au.fn q2,r2.2,λd M3 v G3 H3 r3 x3 m3 q3=>k d M3 v G3 H3 r3 pG! m3 q3⟩
def a6k{k:Nat}{ps:p!}{g:WF}{ag:Pos}{pl:dU_}(F:z5!)(L:cb_)(ho:cr!)
  (ht:eval i1! X.env=(do
   let ov <-eval o X.env
   standAt gx_
   let(f,first) <-holding [ov] gy!
   callWith pos f first mY! eZ_):=by rfl):ME X own i1! (Ba C m ps.length g fo Af):=by
 obtain⟨cl,hr,fd,B,Y,h3⟩:=F;refine eS (b8h (pl:=pl) ho.ok cl B Y L h3 .nil vX ht) λZ G H Q ρ M R st e' k=>z6!;show"!m";refine⟨p,dx,vs,rfl,hH,hl,?_⟩;show Yh X.prog X.w X.K ps.length g gM_ H1 Q E0;have r2:[].length+1=T_/\g (D.fn p::[]) M1 R:=r1;exact⟨r2.1,G1,[.fn p],M1,R,x1.sub,m1,Ao.cons Au.fn Ao.nil,r2.2,λd M3 v G3 H3 r3 x3 m3 q3=>k d M3 v G3 H3 r3 (x1.trans x3 m1) m3 q3⟩
def Wr(P:x4!)(w:x5!)(K:xB!)(mg:y_)(base:Heap)(k:Nat)(x:Str)(C:xz!)(ps:p!)(g:WF):Prop:=
 mg x=some az_/\∃hr fd,Mk K C hr/\Fj P w K mg base Pz k hr fd ps pU!/\Ex K fd ps []
def Gu(C:xz!)(n:Nat)(g:WF)(fs:WA):WE:=λρ M R=>fs ρ M λds M1=>f_+1=n/\∀p,M1 p=none->g (.fn p::ds) (Bd M1 p k8!) λd M2=>d=.non/\R G! M2
def b9m{K:xB!}{M1:Mh}{G1 H1:Hp}(sub:Bj G1 H1)(m1:yL!)(O:H1 x=none)(jo:H1 dx=none)(ne:dx≠x):
  XM M1 G1 H1 (Bd M1 x k8!) G1 mV!/\MR P w K (Bd M1 x k8!) G1 mV!:=by
 have ao:∀b o,H1 b=some o->upd ty_ x mU_ b=some o:=λb o e=>by rw[bC (cJ e O),bC (cJ e jo)];exact e
 refine⟨⟨Bj.refl G1,λb o e=>ao b o (sub b o e),dr_,λb o e _=>ao b o e,bo!,bo!⟩,⟨λb q e=>?_⟩⟩
 .by_cases hb:b=x
  .subst hb;exact .inr O
  .rw[bt!]at h;exact .inl h
 .by_cases hb:b=x
  .subst hb;rw[mup_same];simp
  .rw[bt!];exact h
 .by_cases hb:b=x
  .show"#'";exact⟨sub.free O,dx,[],bV,.nil⟩
  .rw[bt!]at e;obtain⟨B,Y⟩:=m1.cell b q e;refine⟨B,Y.mono (Bj.refl G1) ?_⟩;cases hq:H1 b with
   |none=>exact absurd hq Y.has
   |some o=>exact ao b o hq
def b2q{k:Nat}{x:Str}{ps:p!}{g:WF}(F:z9!)(L:gB!)(hg:X!)(ha:hM!)
  (be:H!:=by decide)(he:aB_:=by rfl)(az:a7_:=by rfl):ME X own bC! (Gu C ps.length g fs):=by
 obtain⟨hm,hr,fd,B,Y,h3⟩:=F;refine eS (c3e B Y L hg hm h3 .nil vX ha.ok be he az) λZ G H Q ρ M R st e' k=>⟨G,ρ,M,_,st,e',λds M1 vs G1 H1 r1 x1 m1 q1=>λy dx hy jo ne=>?_⟩;obtain⟨z1,z2⟩:=b9m (C:=C) x1.sub m1 hy jo ne;rw[JC];exact⟨by rw[IH,<-aJ q1];exact r1.1,G1,.fn y::ds,_,_,z1.sub,z2,Ao.cons Au.fn q1,r1.2 y (m1.nocell hy),λd M2 v G2 H2 r2 x2 m2 q2=>by
  obtain⟨rfl,r2⟩:=r2;exact⟨eF q2,k _ M2 _ G2 H2 r2 ((x1.trans z1 m1).trans x2 z2) m2 Au.fn⟩⟩
def mD{k:Nat}{x:Str}{ps:p!}{g:WF}(F:z9!)(L:gB!)(hg:X!)
  (be:H!:=by decide):ME X own tK_ (Gu C ps.length g Af):=by
 obtain⟨hm,hr,fd,B,Y,h3⟩:=F;refine eS (b8i B Y L hg hm h3 .nil vX be) λZ G H Q ρ M R st e' k=>λy dx hy jo ne=>?_;obtain⟨z1,z2⟩:=b9m (C:=C) st.or.sub st.mr hy jo ne;have r1:[].length+1=T_/\∀p,M p=none->g (D.fn p::[]) (Bd M p k8!) λd M2=>d=.non/\R G! M2:=e';exact⟨r1.1,G,[.fn y],_,_,z1.sub,z2,Ao.cons Au.fn Ao.nil,r1.2 y (st.mr.nocell hy),λd M2 v G2 H2 r2 x2 m2 q2=>by
  obtain⟨rfl,r2⟩:=r2;exact⟨eF q2,k _ M2 _ G2 H2 r2 (z1.trans x2 z2) m2 Au.fn⟩⟩
def Cf(N:p!)(n:Nat)(q:WS):WF:=λds M R=>f_=n/\q hk_ M λr M'=>match r with|.rt d=>R d M'|.nx _=>R .non M'
end
def uU{K:xB!}{mg:y_}{st:Stmt}{ps:p!}{k:Nat}{hx:m_}{q:WS}
  (F:wY!)(S:d6!)
  (hb:∀(af:x6!) (A:x9!) (outer:aw_) (s:xA!) (H:Hp) (E:XK),Ak k ox!->Vq (ox_).nox [] hx bT_ q):
  Fj P w K mg base Pz R_ hr fd ps (Yh P w K ps.length k9!):=by
 refine wY_;obtain⟨hl,G,ds,M,R,sub,m,r,e,kk⟩:=h;refine⟨_,(wZ!).ok M G H,?_⟩;have er:=a4t (N:=N) sub r;exact⟨G,_,M,_,⟨⟨er,m,as!⟩,.refl sub,as!⟩,e.2,λρ' M' G' σ H' r sr=>kk _ M' _ G' H' r sr.x sr.st.mr Au.non,λd M' v G' H' r x m q=>kk d M' v G' H' r x m q⟩
section
variable{P:x4!}{w:x5!}{A:x9!}{E:Value->Shared->Prop}{s:xA!}{d it:xz!}{es:List DictEntry}{ep i:Nat}
def Pd.at{h h':Heap}(D:Pd h d es ep)(e:∀o,h.get? d=some o->h'.get? d=some o):Pd h' d es ep:=let⟨o,ho,r⟩:=D;⟨o,e o ho,r⟩
def c0d{Q:p_}(hd:Ab!)(D:pV_)
  (h:Q c6! {s with heap:=s.heap.push {cls:=.type "dict_keyiterator",data:=.fields #[.ref d,.int 0 0,.int es.length 0,.int ep 0]}}):wpAny L_ A (pyIter (.ref d)) Q E s:=by
 have hT:=D.typeIs;obtain⟨o,ho,hc,VH⟩:=id D;refine wpAny_pyIter_slot hT PySem.F.slot_dict_iter (JO PySem.F.slot_dict_iter hT PySem.F.entry_dict_iter ?_ (PySem.F.args_dict_iter_1 _));unfold Builtin.«dict.__iter__» Builtin.Dict.dictSlotNone;refine HL pw!;show wpAny L_ A.in1 (Builtin.Dict.showsAll d>>=_) _ _ s;unfold Builtin.Dict.showsAll;rw[HR (by rw[hd];exact IR)];refine HL (HN (HL (LU ho VH (HL (LY ho VH (HL (KY (HN ⟨_,rfl,"dict_keyiterator",_,oJ!,KW.lookup,?_⟩))))))));simpa[rawInt]using h
def a6e{Q:fu!}{e:DictEntry}(ax:Ac!)(D:pV_)(O:es[i]?=some e)
  (h:∀h',h'.IsKeyIter it d aX_ es.length ep->Heap.SameBut it s.heap h'->Q (some e.key) {s with heap:=h'}):wpAny L_ A iC_ Q E s:=by
 show"!Y";obtain⟨ai,qc⟩:=IJ.mp O;show"#/"
 first|refine HL (NB hT k9_)|refine HL (OM hT k9_)
 show"!V";refine HL Af_;rw[F!];refine HN ?_;simp only[Ag!,JM,LK,MC,O];refine HL ?_
 first|refine HL (NB hT Ag_)|refine HL (OM hT Ag_)
 show wpAny L_ A.in1 (setField b8! 1 Ah!>>=_) _ _ s;have l9:(s.heap.update it Ah_).IsKeyIter it d aX_ es.length ep:=
  ⟨_,NZ _ ho (Obj.isFreed_of_fields (QB hd _)),(xt_).trans hc,by rw[QB hd];simp[rawInt]⟩
 refine HL (RM ho hd d_ (HL (JS (HL (QZ (s:={s with heap:=s.heap.update it Ah_}) l9.typeIs ?_)))));exact HN (HN ⟨_,rfl,HN (h _ l9 eo!)⟩)
def b3b{Q:fu!}(hh:e3_)(ax:Ac!)(D:pV_)(O:ai_<=i)
  (h:∀h',Heap.ExtBut it s.heap h'->Q none {s with heap:=h'}):wpAny L_ A iC_ Q E s:=by
 show"!Y";show"#/"
 first|refine HL (NB hT k9_)|refine HL (OM hT k9_)
 show"!V";refine HL Af_;rw[F!];refine HN ?_;simp only[Ag!,JM,LK,MC,JZ O];refine HL ?_
 first|refine HL (NB hT af!)|refine HL (OM hT af!)
 show wpAny L_ A.in1 (setField b8! 0 .none>>=_) _ _ s;refine HL (RM ho hd d_ ?_);refine HL ?_;simp only[newExc,newTuple];refine HL (KY (HL (m:=xu!) (wpAny_of_eq (a:=dD_) xu_ (KY ?_ km_))) km_);simp only[raiseNew];refine HL xv!;rw[xv_];refine HL xw!;refine HL (wpAny_isInstance (T:=xJ_) (b:=true) (show Shared.TypeIs _ _ _ from oJ!) isSubtype_stop ?_);exact HN (h _ xw_)
def b3q(hh:e3_)(I d:xz!)(b9:d≠I)(es:ad_)(ep:Nat):Walks P w A I [I,d] [I] es.length pW! (λi h=>h.IsKeyIter I d i es.length ep/\Pd h d es ep) where
 sub:=λb hb=>by simp at hb;simp[hb]
 frame:=λ_ _ _ st hk=>⟨st.1.at λo e=>hk I d_ o e,st.2.at λo e=>hk d d_ o e⟩
 item:=λi s Q E hi st hQ=>by
  refine a6e st.1 st.2 (IM hi) λh' l9 bx=>?_;exact hQ _ h' s.toks ⟨_,IM hi,rfl⟩ ⟨l9,st.2.at λo e=>(bx.2 d b9).trans e⟩ λb o hb e=>(bx.2 b gm!).trans e
 done:=λs Q E st hQ=>b3b hh st.1 st.2 x_ λh' cm=>hQ h' s.toks λb o hb e=>cm b o gm! e
 self:=λ_ _ _ _ st hQ=>wpAny_pyIter_keyiter st.1 hQ
def c9f{es au:ad_}{ay:Nat}(D:Pd h d es ep)(D':Pd h d au ay):es=au/\ep=ay:=by
 obtain⟨o,B,_,Y⟩:=D;obtain⟨o',h3,_,h4⟩:=D';rw[B]at h3;cases h3;rw[Y]at h4;injection h4 with h5 h6
 exact⟨by simpa using congrArg Array.toList h5,h6⟩
def GP(d:xz!)(ep n:Nat):It:=⟨λi H=>∃es e x,H d=some dA!/\ai_=n/\es[i]?=some e/\Bs x e.key,λi H x H'=>H'=H/\∀es,H d=some dA!->∃e,es[i]?=some e/\Bs x e.key,λi H=>∃es,H d=some dA!/\ai_=n/\n<=i⟩
def a3z{P:x4!}{w:x5!}{H:Hp}{es:ad_}(hok:bw!)(e:H d=some dA!):Pd h d es ep:=by obtain⟨⟨h3,_⟩,_⟩:=(show Fb P w H h d dA! from hok d _ e);exact h3
def b6k{P:x4!}{w:x5!}{K:xB!}{tg:Expr}{n:Nat}(d it:xz!):Ti P w K tg (GP d ep n) [it] it (λi h=>h.IsKeyIter it d i n ep) where
 mem:=by simp
 obj:=λi h st b hb=>by
  have e:b=it:=by simpa using hb
  subst e;show"#!"
 keep:=λi h h' st k=>st.at λo e=>k it d_ o e
 item:=by
  intro X hP hw hK hc i J s Z H E I hf st hg;subst hP hw hK;obtain⟨es,e,x,hH,hl,O,rx⟩:=hg;have D:=a3z I.hok hH;obtain⟨f0,f1,f2,f3,f4,f5⟩:=hf it d_;subst hl;refine a6e st D O λh' h2 sb=>?_;have I1:Inv X J Z H {s with heap:=h'}:=I.turned (t':=s.toks) r2_ f0 f1 f3 f4 f5;obtain⟨o,eo,c,dd⟩:=id h2;exact⟨_,rfl,c0i (s:=mj_) eo c dd c_ ⟨x,H,I1,rx,⟨rfl,λau hy=>by
   obtain⟨rfl,_⟩:=c9f D (a3z I.hok hy);exact⟨e,O,rx⟩⟩,h2,λb hb=>(mk!).1⟩⟩
 done:=by
  show"!0";obtain⟨es,hH,hl,O⟩:=hg;show"!2";subst hl;exact b3b bz_ st (a3z I.hok hH) O λh' eb=>ml!
 self:=λ_ _ _ _ _ st h=>wpAny_pyIter_keyiter st h
end
section
variable{X:Cx}{own:List Nat}{a tg:Expr}{fa:WE}
def Pf(f:WE):WI:=λρ M T=>f ρ M λd M1=>Dx hN! λq=>T hU_ (λM=>M q.1=some pB_) M1
def b9i(h:av_):MI X own tg a (Pf fa):=⟨by
 intro J s Z H R I ⟨G,ρ,M,T,st,e,k⟩;refine h.run I st e λd M1 v G1 H1 u s1 r1 x1 m1 q1 I1 rx=>?_;obtain⟨⟨p,kvs,ep⟩,e1,r2⟩:=cP r1;obtain⟨rfl,rfl,hM⟩:=cI q1 e1;cases rx;obtain⟨es,B,Y,h3,h4,h5,h6⟩:=eK I1 m1 x1.sub hM;have am:aG!=ai_:=NA Y.1;refine c0d h4 h3 ⟨E!,[E!],_,GP p ep ai_,H1,rfl,mm_,b6k p _,eR!,bA_,k _ _ M1 _ G1 H1 r2 x1 m1 λi M' G' H' s2 s3 m' ck=>?_⟩
 .have e:b=E!:=by simpa using hb
  show"!o"
 .obtain⟨_,au,g1,g2⟩:=m'.cell p _ ck;have hlen':aG!=au.length:=NA g2.1;refine⟨el!,λhi=>⟨au,g1,t_,by rw[hi,IF];show ai_<=aG!;omega⟩⟩;rw[JG]at hd;obtain⟨q,hq,rfl⟩:=IB.mp hd;obtain⟨e',cm,⟨v,r1,rv⟩,_,_⟩:=gM g2.1 hq;refine⟨⟨au,e',v,g1,t_,cm,rv⟩,hf_⟩;obtain⟨z1,z2⟩:=hy;subst z1;obtain⟨e2,v9,rx⟩:=z2 au g1;rw[cm]at v9;cases v9;rw[rx.inj rv];exact⟨G',Ck.refl s3,r1⟩⟩
end
section
variable{X:Cx}{J:List (Addr×Obj)}{Z:St}{H:Hp}{s:xA!}
def kB{Y:Heap}{t':Nat}{wr:aw!}(I:d!)(hf:∀b∈wr,Ji X J H b)(kp:∀c o,c∉wr->s.heap.get? c=some o->Y.get? c=some o):Inv X J Z H {s with heap:=Y,toks:=t'}:=by
 refine I.step (g':=s.gens) (d':=s.drawn) (t':=t') (ch:=wr) ht! oN_ oO! ii_ oO_ ij! ij_ oP! ik! ht_ I.bare
 .obtain⟨f0,f1,f2,f3,f4,f5⟩:=hf c hc;exact⟨f3,f1,f4,f5⟩
 .obtain⟨o,es,ep,ho,r⟩:=hm;exact⟨o,es,ep,kp _ o (λz=>(hf _ z).2.1 rfl) ho,r⟩
 .refine(oQ!).stay oQ_ oR! λ_ _ e'=>e';have hn:=(hf d hm).1;obtain rfl|hd:=hd
  .rw[hn]at e;cases e
  .rw[hn]at hd;cases hd
def c6u{s0:xA!}{xs:l_}{us:i!}(I:Inv X J Z H s0)(I1:d!)(hT:Aj_<=T)(eT:s.heap.IsTuple T cD_)(rv:h7_)(hz:k_<=sizeLine):Inv X J Z (upd H T bJ_) s:=by
 have sy:H T=none:=I.hok.fresh hT;have ne:∀c o,H c=some o->c≠T:=λc o e=>cJ e sy;refine Inv.step (g':=s.gens) (d':=s.drawn) (t':=s.toks) (h':=s.heap) (ch:=[T]) I1 ht! xV! xV_ xW! xW_
  (xY!) xX_ xZ! nD_ ht_ I1.bare
 .have e:c=T:=by simpa using hc
  subst e;obtain⟨_,g1,_,g3,g4,g5⟩:=I.fpOk hT sy;exact⟨g3,g1,g4,g5⟩
 .rw[nE!];exact n
 .by_cases hb:c=T
  .show"!x";exact⟨hz,us,rv,eT⟩
  .rw[bC hb]at e;exact(xZ_).stay nE_ x0! λd xs q=>by rw[oU!];exact q
end
def GO(x:Str):It:=⟨xf_,λi H v H'=>∃T c,v=.ref T/\H T=none/\x.cps[i]?=some c/\H'=upd H T (.tup [b7!,gJ_]),xg!⟩
def a8p{K:xB!}{jm:bM!}{n1:Nat}{tp:Pos}{x:Str}{St':dN_}(qe:e≠it)(hd:xh_)
  (D:∀A':Around,oH!=none->Draws P w A' it [it] x.cps.size Ak! St'):
  Ti P w K fu_ (GO x) [e,it] e (λi h=>i<=ft_/\(∃ao,IsEnum h e it i ao)/\St' i h) where
 mem:=by simp
 obj:=λi h st b hb=>by
  simp only[HQ,JI,LB]at hb;obtain⟨_,⟨ao,s1⟩,s2⟩:=st;obtain rfl|rfl:=hb
  .exact⟨_,s1,jH!⟩
  .exact hd i h s2
 keep:=λi h h' st k=>by
  have W:=WalksT.enumerateD (A:=callerA) (D callerA.in1 rfl) e qe pY_ d_;exact⟨st.1,W.frame i h h' st.2 λb hb o q=>k b gm! o q⟩
 item:=by
  intro X hP hw hK hc i J s Z H E I hf st hg;subst hP hw hK;have hh:=I.ok.hd hc;have W:=WalksT.enumerateD (A:=X.A) Ak_ e qe pY_ d_;refine W.item i s _ _ hg st.2 λT ye h' tk hP hT ZE hm kp=>⟨_,rfl,W.go jm n1 tp i T _ _ _ hm λY bf VI=>?_⟩;obtain⟨t,y,⟨c,u,j0,rfl⟩,rfl⟩:=hP;have ZF:∀b∈[e,it],Ji X J H b:=hf;have I1:Inv X J Z H {s with heap:=Y,toks:=tk}:=kB I ZF λc o hc eo=>VI c o hc (kp c o hc eo);have VJ:T∉[e,it]:=W.apart i T _ hm;have eT:Y.IsTuple T #[.int i t,.str ar_ u]:=by
   obtain⟨o,eo,r⟩:=ZE;exact⟨o,VI T o VJ eo,r⟩
  have I2:=c6u (us:=[.int i t,.str ar_ u]) (xs:=[b7!,gJ_]) I I1 hT eT (.cons nz_ (.cons ⟨u,rfl⟩ .nil)) (by show 2<=sizeLine;rw[JY];decide);refine⟨.ref T,_,I2,rfl,⟨T,c,rfl,I.hok.fresh hT,j0,rfl⟩,⟨hg,bf⟩,bA_⟩;rw[bC (λz:b=T=>VJ (by rw[<-z];exact hb))];exact(mk!).1
 done:=by
  show"!0";have hh:=I.ok.hd hc;have W:=WalksT.enumerateD (A:=X.A) Ak_ e qe pY_ d_;show"#B";exact W.done s _ _ st.2 λh' tk kp=>⟨rfl,kB I hf kp⟩
 self:=λA i s Q E st h=>by
  obtain⟨_,⟨ao,s1⟩,_⟩:=st;exact wpAny_pyIter_enum s1 h
section
variable{X:Cx}{own:List Nat}{a:Expr}{jm:List Expr}{n1:Nat}{tp p pos:Pos}{fa:Ad->Option D}
def Tc(f:e!):Ad->Option aQ_:=λρ=>(am!).bind λd=>match d with|.str x=>some (x.cps.toList.zipIdx.map λq=>.tup Am_)|_=>none
def c0z(hg:Gl X "enumerate")(hm:X.mg "enumerate"=none)(h:Z!)(hs:starEach [a] X.env=dP_::starEach [] X.env:=by rfl)(az:(mY!).any b_=false:=by rfl):
  DI X own fu_ (.Call (.Name "enumerate" p) [a] [] pos) (Tc fa):=⟨by
 intro J s Z H R I ⟨G,ρ,ds,er,e,k⟩;obtain⟨d,e1,e2⟩:=HM.mp e;cases d<;>first|(cases e2;done)|skip
 rename_i x;cases e2;refine Call_ (mG I hg hm boot_enumerate (LM (dO (dY h.ok gA hs pos J s Z H (λvs H1=>∃v G1,vs=[v]/\Ck G H G1 H1/\Au X.K G1 dK! v) I ⟨G,ρ,_,er,e1,λv G1 H1 x1 r1=>⟨v,G1,rfl,x1,r1⟩⟩) λus s1 ⟨vs,H1,I1,r1,v,G1,q1,x1,rr⟩=>?_) hs az));subst q1;cases cG rr;obtain⟨u,rfl,t,rfl⟩:=vC r1;refine call_enumerate_str λh' he ax hsz hk=>?_;refine wpAny_pyIter_enum he ?_;have I2:Inv X J Z H1 {s1 with heap:=h',toks:=s1.toks}:=I1.kept (t':=s1.toks) hk;have nz:∀b∈[E!+1,E!],E!<=b:=λb hb=>by
  simp only[HQ,JI,LB]at hb;obtain rfl|rfl:=hb<;>omega
 have fin:∀{St':dN_},St' 0 h'->(∀i h,St' i h->∃o,h.get? E!=some o/\∀v,o.data≠.cell v)->(∀A':Around,oH!=none->Draws X.prog X.w A' s1.heap.objs.size [E!] x.cps.size Ak! St')->
   DU X J Z fu_ R (.ref (E!+1)) {s1 with heap:=h'}:=λ{St'} h0 hd D=>by
  refine⟨_,_,_,GO x,H1,rfl,I2,a8p (Nat.succ_ne_self _) hd D,⟨JU _,⟨_,he⟩,h0⟩,λb hb=>I1.fpOk (nz b hb) (I1.hok.fresh (nz b hb)),k _ G1 H1 x1 ?_⟩;intro i G' H' g1 g2;refine⟨el!,λhi=>by rw[IF,List.length_zipIdx,JV]at hi;exact PH hi.symm⟩;rw[JG,List.getElem?_zipIdx]at hd;obtain⟨q,hq,rfl⟩:=IB.mp hd;obtain⟨c,hc,rfl⟩:=IB.mp hq;rw[NM]at hc;refine xh!;obtain⟨T,c',rfl,hT,bu,rfl⟩:=hy;rw[hc]at bu;cases bu;refine⟨_,Ck.laid g2 hT,fV (g2.free hT) (Ao.cons ?_ (Ao.cons Au.str Ao.nil))⟩;rw[RO];exact Au.int
 cases ha:x.cps.all (·<128)
 .have l9:h'.IsStrIter s1.heap.objs.size "str_iterator" x t 0:=by simpa[strIterType,ha]using ax
  exact fin (St':=λi h=>h.IsStrIter s1.heap.objs.size "str_iterator" x t i) l9 Ao_ λA' hh=>Draws.strWide hh _ x t
 .have l9:h'.IsStrIter s1.heap.objs.size "str_ascii_iterator" x t 0:=by simpa[strIterType,ha]using ax
  exact fin (St':=λi h=>h.IsStrIter s1.heap.objs.size "str_ascii_iterator" x t i) l9 Ao_ λA' hh=>Draws.strAscii hh _ x t⟩
def Su(a:Int)(n:Nat):List D:=(oo_).map λi=>.int (a+(i:Nat))
def Tb(f g:e!):Ad->Option aQ_:=λρ=>(am!).bind λx=>(g ρ).bind λy=>match x,y with|.int i,.int j=>if -1000<=i/\i<=100000/\-1000<=j/\j<=100000 then some (Su i (j - i).toNat)else none|_,_=>none
end
end DL
namespace HT
open PySem PySem.Spec PyProof.Rows
def b7d(A:x9!)(s:xA!)(a:Int)(t:Tok)(c:Int)(u:Tok)(prog:x4!)(w:x5!)(E:p_)(Q:p_)(h:Q (.bool (decide (c<a))) s):
  wpAny r_ A (richCompare .Gt gG_ m7_) Q E s:=
 (PyProof.Rows.gt_int h:wpAny r_ A (compareOp .Gt gG_ m7_) Q E s)
section
open PySem.SeqAt
open PySem.AutoSeq1 (wpAny_loadPart')
open PySem.MeetsSeq PySem.MeetsSeq2 PySem.MeetsSeq3
def xY(l b:xz!)(items jp:W!)(n n2:Nat)(dd lh:a8_)(sl jf:cc!)(ns ms:z!)(hi:Ap!)(hj:Ap_):
  Meets (Builtin.«tuple.__gt__» ⟨[hV_,.ref b],[]⟩)
   (λ_ R s=>s.heap.get? l=some {cls:=.type "tuple",dict:=dd,data:=.seq items n,slots:=sl}/\s.heap.get? b=some {cls:=.type "tuple",dict:=lh,data:=.seq jp n2,slots:=jf}/\
    R (.ok (.ret p0_)) s):=
 .of_wp λprog w A R s h=>by
  obtain⟨hp,g,d,tk,os⟩:=s;obtain⟨hl,hb,h⟩:=h;have f2:=AutoSeq1.sub_tuple_tuple;have z1:bk_=c8_:=by rw[<-hi.length];simp
  have z2:jp.size=ey_:=by rw[<-hj.length];simp
  wp_walk using MV hl,MV hb,QP _ (λrest b s'=>b.1=none/\s'=hr_/\∃(vs ws:i!) (qf qg:z!),rest=vs.zip ws/\
   IntsAre vs qf/\IntsAre ws qg/\qf.length+jp.size=qg.length+bk_/\R (.ok (.ret (.bool (lexLt qg qf)))) hr_) _
  case turn=>
   rintro⟨y,x⟩ rest b s' ⟨df,rfl,vs,ws,qf,qg,hz,zh,wm,am,hR⟩;cases zh with
   |nil=>rw[List.zip_nil_left]at hz;cases hz
   |cons a t ZG=>
    cases wm with
    |nil=>rw[List.zip_nil_right]at hz;cases hz
    |cons c u ZH=>
     rw[PJ]at hz;injection hz with ZI ZJ
     injection ZI with hy O
     subst hy O;rw[lexLt_cons]at hR;simp only[IH]at am;obtain⟨e,he,VL⟩:=c0q A.in1 hr_ a t c u;refine HL (he prog w _ _ ?_);cases e with
     |true=>
      rw[IA (VL.mp rfl).symm]at hR
      wp_walk
      exact⟨rfl,rfl,_,_,_,_,ZJ,ZG,ZH,t_,hR⟩
     |false=>
      rw[HR (λq=>absurd (VL.mpr q.symm) IR)]at hR;have ZK:=b7d A.in1 hr_ a t c u prog w
      wp_walk using ZK
      exact⟨_,rfl,by simpa using hR⟩
  case fin=>
   rintro⟨b1,b2⟩ s' ⟨df,rfl,vs,ws,qf,qg,hz,zh,wm,am,hR⟩;simp only at df;subst df;have hv:lexLt qg qf=decide (jp.size<bk_):=by
    cases zh with
    |nil=>
     cases wm with
     |nil=>
      simp only[MN]at am;rw[lexLt_nil_nil];exact(IK a!).symm
     |cons c u hw=>
      simp only[MN,IH]at am;rw[wQ];exact(IK a!).symm
    |cons a t hv=>
     cases wm with
     |nil=>
      simp only[MN,IH]at am;rw[wP];exact(IT a!).symm
     |cons c u hw=>
      rw[PJ]at hz;cases hz
   rw[hv]at hR
   wp_walk
   exact⟨_,rfl,by simpa[Builtin.Tuple.tupleCompareSizes]using hR⟩
  case h=>
   exact⟨rfl,rfl,items.toList,jp.toList,ns,ms,rfl,hi,hj,t_,h⟩
end
section
variable{prog:x4!}{w:x5!}{A:x9!}{E:Value->Shared->Prop}{s:xA!}
def gt_tupInts{b:xz!}{items jp:W!}{ns ms:z!}{Q:p_}(hl:IsTup s.heap l items)(hb:IsTup s.heap b jp)(hi:Ap!)(hj:Ap_)
  (hu:at!)(h:Q p0_ s):wpAny r_ A (compareOp .Gt jj_ d2!) Q E s:=by
 obtain⟨⟨cls,dd,data,sl⟩,ho,hc,n,hd⟩:=id hl;obtain⟨⟨UA,lh,data2,jf⟩,ii,jg,n2,jh⟩:=id hb;simp only at hc hd jg jh;subst hc hd jg jh;exact richCompare_meets_room (op:=.Gt) i7_ i8! PySem.F.slot_tuple_gt PySem.F.entry_tuple_gt (PySem.F.args_tuple_gt_2 _ _) (xY l b items jp n n2 dd lh sl jf ns ms hi hj)
  ⟨ho,ii,show Value.bool (lexLt ms ns)≠Value.notImplemented/\Q p0_ s from⟨(λx=>nomatch x),h⟩⟩ hu
end
end HT
namespace DL
open PySem PySem.Spec PyProof.Rows L2
section
variable{X:Cx}{own bh:List Nat}{a b e tg o:Expr}{es:List Expr}{p pos:Pos}{fa fb f:Ad->Option D}
def CD(K:xB!):R2:=λx y H Q=>∃a b ns ms,x=.ref a/\y=.ref b/\Gc K H a cd!/\Gc K H b (ms.map V.int)/\Q (.bl p1_) H
def c7q(hu:X.A.units<cLine):Gs X sz_ (CD X.K):=by intro J s Z H x y v u Q I rx ry h;obtain⟨a,b,ns,ms,rfl,rfl,ha,hb,q⟩:=h;cases rx;cases ry;obtain⟨its,r1,p1,_⟩:=I.tuple ha;obtain⟨gu,r2,p2,_⟩:=I.tuple hb;have i1:IntsAre its.toArray.toList ns:=xH r1;have i2:IntsAre gu.toArray.toList ms:=xH r2;exact HT.gt_tupInts p1 p2 i1 i2 hu ⟨.bl p1_,H,I,rfl,q⟩
def Sk:List D->Option (List Int)
 |[]=>some []
 |.int i::r=>(Sk r).map (i::·)
 |_=>none
def rS{K:xB!}{G:Hp}:∀{ds:b!} {vs:l_} {ns:z!},Ao K G ds vs->Sk ds=some ns->vs=ns.map V.int
 |[],vs,ns,r,e=>by cases cM r;cases e;rfl
 |d::ds,vs,ns,r,e=>by
  obtain⟨v,t,rfl,r1,r2⟩:=bN r;cases d<;>simp only[Sk]at e<;>first|(cases e;done)|skip
  obtain⟨l,e1,rfl⟩:=IB.mp e;rw[rS r2 e1];cases bD r1;rfl
def BH:D->D->Option D
 |.tup xs,.tup ys=>(Sk xs).bind λns=>(Sk ys).map λms=>.bl p1_
 |_,_=>none
def c7x{K:xB!}:Ip K (CD K) BH:=by
 show"!/";unfold BH at e;show"!6"
 .obtain⟨ns,e1,e⟩:=HM.mp e;obtain⟨ms,e2,rfl⟩:=IB.mp e;show"!S";obtain⟨b,ws,rfl,qb,rb⟩:=bT ry;rw[rS ra e1]at qa;rw[rS rb e2]at qb;exact⟨a,b,ns,ms,rfl,rfl,jY_,of_,ek_⟩
 .cases e
def AJ(neg:Bool):R2:=λx y H Q=>∃b c,x=.bl b/\y=.bl c/\Q As_ H
def c7n:Gs X sC! (AJ false):=by
 intro J s Z H x y v u Q I rx ry h;obtain⟨b,c,rfl,rfl,q⟩:=h;cases rx;cases ry;refine wpAny_is_plain rfl ?_;have e:At!=(b==c):=by cases b<;>cases c<;>rfl
 rw[e];exact ki_
def b4t:Gs X sD! (AJ true):=by
 intro J s Z H x y v u Q I rx ry h;obtain⟨b,c,rfl,rfl,q⟩:=h;cases rx;cases ry;refine wpAny_isNot_plain rfl ?_;have e:At!=(b==c):=by cases b<;>cases c<;>rfl
 rw[e];exact ki_
def BG(neg:Bool):D->D->Option D
 |.bl b,.bl c=>some As_
 |_,_=>none
def b8x{K:xB!}{neg:Bool}:Ip K (AJ neg) (BG neg):=by
 show"!/";unfold BG at e;show"!6"
 .cases e;cases cW rx;cases cW ry;exact oW!
 .cases e
def b5x(hg:iF_)(hm:iG!)(ha:Z!)(hb:cG_)(hs:sb!:=by rfl)(bm:sb_:=by rfl)
  (c9:starEach (a::[b]) X.env=dP_::starEach [b] X.env:=by rfl)(jl:starEach (b::[]) X.env=iH!::starEach [] X.env:=by rfl):DI X own tg sc! (Tb fa fb):=
 a7q (b4n hg hm (dY ha.ok (dY hb.ok gA jl) c9) hs bm) λZ G H R ρ ds er e k=>by
  obtain⟨x,e1,e3⟩:=HM.mp e;obtain⟨y,e2,e4⟩:=HM.mp e3;clear e e3;split at e4
  .rename_i i j;split at e4
   .rename_i h;cases e4;refine x6_;cases bD r1;cases bD r2;refine⟨i,j,rfl,t_,k _ G2 H2 dn_ ?_⟩;intro n G' H' g1 g2;unfold Su;refine wC!;rw[JG]at hd;obtain⟨m,hj,rfl⟩:=IB.mp hd;obtain⟨hl,he⟩:=IJ.mp hj;rw[PK]at he;subst he;rw[MM]at hl;refine⟨hl,hf_⟩;obtain⟨z1,z2⟩:=hy;subst z1 z2;exact⟨G',Ck.refl g2,Au.int⟩
   .cases e4
  .cases e4
def Yq:V->List V->Hp->VK->Prop:=λx vs H Q=>∃l xs k y,x=.ref l/\vs=[p3!,y]/\H l=some R!/\k<=k_/\k_<sizeLine/\Q .non (upd H l (.lst (xs.take k++y::xs.drop k)))
def b5j:DX X "list.insert" Yq:=by
 intro J s Z H x vs v us Q I rx rv h;obtain⟨l,xs,k,y,rfl,rfl,hH,hk,hz,q⟩:=h;cases rx;obtain⟨u,u2,rfl,⟨t,rfl⟩,ru⟩:=a4o rv;obtain⟨z,its,n,r,hl,e⟩:=I.lstM hH;have yc:¬(!Builtin.List.listFitsIndex (k:Int))=true:=by
  rw[fitsIndex_both (Int.le_trans c_ (Int.natCast_nonneg k)) (Int.lt_of_le_of_lt (Int.ofNat_le.mpr (JD hk (NC hz))) wq_)];exact IR
 have hsz:bQ_<=sizeLine:=by rw[HX];omega
 refine RF (S:=?S) PySem.F.slot_list_insert de! PySem.F.entry_list_insert (PySem.F.args_list_insert_3 _ _ _) ?g ?h
 case g=>exact @PySem.AutoSeq1.list_insert_list_int_val_1 l its.toArray n (k:Int) t u2 yc hsz
 refine gO_;refine⟨.non,_,I.lset (its':=its.take k++u2::its.drop k) hH e ?_ ((r.take k).append (.cons ru (r.drop k))) ?_,rfl,q⟩
 .have B:¬an_<0:=by omega
  have Y:min (an_).toNat bQ_=k:=by simp;omega
  simp only[B,JM,Y];simp[List.extract_eq_drop_take];rw[LA d_]
 .simp only[IL,IH,OB,RQ];omega
def Ro(i:Nat)(fk f:e!):Ad->Option Fl:=λρ=>(fk ρ).bind λx=>(am!).bind λd=>match x,ρ[i]? with
 |.int j,some (some (.lst ds))=>if 0<=j/\j.toNat<=f_/\f_<big then some (.nx (ρ.set i (some (.lst (ds.take j.toNat++d::ds.drop j.toNat)))))else none
 |_,_=>none
def a0k{i:Nat}{x:Str}{ag ab:Pos}{fk:e!}(bq:eg!:=by decide)(hk:DE X own ek fk)(h:dm_)(hN:ap_:=by rfl)(hv:c0!:=by first|exact Or.inl rfl|exact Or.inr a_|exact Or.inr bc_)
  (hd:H!:=by decide)(b6:c0_:=by decide)
  (bv:starEach (ek::[e]) X.env=(false,eval ek X.env)::starEach [e] X.env:=by rfl)(ZL:j6_:=by rfl)(fh:((backTo ab (starEach [ek,e] X.env)).all cd_&&(ce!).all ce_
   &&decide ([ek,e].length+(d3_).length+e7!<30))=true:=by rfl) (fm:dd_:=by rfl)
  (fg:attributeBase bq_ "insert" X.env j7!=eval bq_ X.env:=by rfl) (fq:(js!).any b_=false:=by rfl) (j6:swapsWith Av_ none pos.line X.env=pure false:=by rfl):
  DS X own own (.Expr Av_ pos) (Ro i fk f):=⟨λG0 F0 J s Z H E I ⟨G,ρ,r,er,e',k⟩=>by
  refine uK (vW MQ PySem.F.slot_list_insert PySem.F.type_list_insert b5j jR_ (dY hk.ok (dY h.ok gA ZL) bv) fg fh fm bv fq) j6 J s Z H E I ?_;obtain⟨z,e1,e4⟩:=HM.mp e';obtain⟨d,e3,e2⟩:=HM.mp e4;clear e' e4;obtain⟨p,ds,vs,B,Y,h3,h4,h5⟩:=er.or.own_ i bq;rw[B]at e2;cases z<;>first|(cases e2;done)|skip
  rename_i j;simp only at e2;split at e2
  .rename_i hj;cases e2;refine⟨fp!,Y,ot_,G,ρ,_,er.or,e1,λv G' H' x r=>⟨G',ρ,d,er.or.grow x,e3,λv2 G2 H2 x2 r2=>?_⟩⟩;cases bD r;have hl:=aJ h5;refine⟨p,vs,j.toNat,v2,rfl,?_,wU!,t_,by rw[<-hl];exact IV hj.2.2 (cS x_),?_⟩
   .rw[Int.toNat_of_nonneg hj.1]
   .have h6:=(ou!).mono x2.g;exact k G2 Z _ (((hh!).grow x2).upd bq Y (cY (rT _ h6) (Ao.cons r2 (rV _ h6))))
  .cases e2⟩
end
end DL
namespace DL
open PySem PySem.Spec PyProof.Rows L2
section
variable{X:Cx}{own bh:List Nat}{a b e tg o:Expr}{es:List Expr}{p p2 pos:Pos}{fa fb fo f:WE}{fs:WA}
def Xb(i:Nat)(f:WE):WS:=λρ M R=>f ρ M λd M1=>Dx pC_ λq=>match ρ[i]? with
 |some (some (.lst ds))=>f_+pD!<=big/\R (.nx (ρ.set i (some (.lst (ds++q.2))))) M1
 |_=>False
def b5l{i:Nat}{x:Str}{ag ab:Pos}(bq:eg!:=by decide)(h:b1!)(hN:ap_:=by rfl)(hv:c0!:=by first|exact Or.inl rfl|exact Or.inr a_|exact Or.inr bc_)
  (hd:H!:=by decide)(b6:c0_:=by decide)
  (bv:j6_:=by rfl)(fh:((js!).all cd_&&(ce!).all ce_
   &&decide wP_)=true:=by rfl) (fm:dd_:=by rfl)
  (fg:attributeBase bq_ "extend" X.env j7!=eval bq_ X.env:=by rfl) (fq:fo_:=by rfl) (j6:swapsWith Aw! none pos.line X.env=pure false:=by rfl):
  MS X own own (.Expr Aw! pos) (Xb i f):=
 pY (uK (vW MQ PySem.F.slot_list_extend PySem.F.type_list_extend b5k jR_ wR! fg fh fm bv fq) j6) λM0 G0 F0 E Z G H ρ M R sr e' k1 k2=>by
  obtain⟨p,ds,vs,B,Y,h3,h4,h5⟩:=sr.st.or.own_ i bq;refine⟨fp!,Y,ot_,G,ρ,M,_,sr.st,e',zV!⟩;obtain⟨⟨c,zs⟩,e1,r⟩:=cP r;obtain⟨z1,z2,z3,us,h6,h7⟩:=mU m q e1;cases z2;rw[B]at r;have eh:=sr.grow x m;obtain⟨p',sk,gg,g1,g2,g3,g4,g5⟩:=eh.st.or.own_ i bq;rw[Y]at g2;cases g2;rw[B]at g1;cases g1;refine⟨p,c,gg,us,rfl,rfl,g3,h6,?_,k1 _ M' G' Z _ r.2 (eh.after (eh.sr.upd bq Y (cY g5 h7)))⟩;have:=r.1;rw[<-aJ g5,<-aJ h7];exact cS this
def Qe(s0:Str)(fa:WE):WE:=λρ M R=>fa ρ M λy M2=>Dx (Nf (.str s0) y) λd=>R d M2
def b2r{s0:Str}{n0:Nat}{ag ab:Pos}(ha:av_)
  (fg:attributeBase la_ "join" X.env (eval la_ X.env)=eval la_ X.env:=by rfl)
  (fh:((kl!).all cd_&&(ce!).all ce_
   &&decide kl_)=true:=by rfl)
  (fm:dd_:=by rfl) (hs:hg!:=by rfl) (fq:fo_:=by rfl):
  ME X own (.Call (.Attribute la_ "join" ag) [a] [] ab) (Qe s0 fa):=
 eS (vW PySem.F.plainAttrs_str PySem.F.slot_str_join PySem.F.type_str_join b2n b8c xo! fg fh fm hs fq) λZ G H Q ρ M R st e k=>⟨rfl,G,ρ,M,_,st,e,λy M2 w G2 H2 r2 x2 m2 q2=>by
  obtain⟨d,e3,r3⟩:=cP r2;cases y<;>first|(cases e3;done)|skip
  rename_i xs;obtain⟨ys,e4,e5⟩:=HM.mp (show((Qf xs).bind λys=>if(kk_).sum+ac_*s0.length<=big then some (.str (Txt.join s0 ys))else none)=some d from e3);split at e5
  .rename_i hl;cases e5;obtain⟨p,vs,rfl,q,rr⟩:=bU q2;have:=vQ rr e4;subst this;exact⟨_,p,ys,rfl,rfl,x2.sub.seq q,JD hl c_,k _ M2 _ G2 H2 r3 x2 m2 Au.str⟩
  .cases e5⟩
def Wy(fs:WA)(fb:WE):WE:=λρ M R=>fs ρ M λds M1=>f_<=1000/\fb ρ M1 λy M2=>match y with
 |.int k=>(0<=k/\k<=1000/\f_*k.toNat<=1000)/\∀p,M2 p=none->R G! (Bd M2 p (.lst (List.replicate k.toNat ds).flatten))
 |_=>False
def c0n{G H:Hp}{p:xz!}{o:HO}(s:M_)(hp:cE_):Ck G H G fh!:=⟨fh_,iM hp,s.trans (iM hp),dr_⟩
def a5h{K:xB!}{G:Hp}(r:j4_):∀k:Nat,Ao K G (List.replicate k ds).flatten (List.replicate k vs).flatten
 |0=>Ao.nil
 |k+1=>by
  rw[LN,LN,NP,NP];exact cY r (a5h r k)
def c3t(ha:hF!)(hb:cM!):ME X own (.BinOp (.List es p2) .Mult b pos) (Wy fs fb):=
 eS (b8e c7k (vU ha.ok) hb.ok) λZ G H Q ρ M R st e k=>⟨G,ρ,M,_,st,e,λds M1 vs G1 H1 r1 x1 m1 q1=>⟨by rw[<-aJ q1];exact gF r1.1,λp hp=>by
  have xj:Ck G1 H1 G1 (upd H1 p dl_):=c0n x1.sub hp;have hM:M1 p=none:=m1.nocell hp;refine⟨G1,ρ,M1,_,(fL!).grow (.ext xj) (m1.ext xj),r1.2,λy M2 v G2 H2 r2 x2 m2 q2=>?_⟩;cases y<;>first|exact r2.elim|skip
  rename_i n;cases bD q2;obtain⟨⟨hn,j1,hl⟩,r2⟩:=r2;have ZM:H2 p=some dl_:=x2.keep p _ bV hM;refine⟨p,n,vs,rfl,rfl,ZM,t_,t_,by rw[<-aJ q1];exact gF hl,kv!⟩;have ZN:=(x1.trans (.ext xj) m1).trans x2 (m1.ext xj);exact k _ _ _ G2 _ (r2 c (m2.nocell hc)) (ZN.trans (.laid x2.sub hc) m2) (m2.laid hc x2.sub ⟨_,bV,a5h b1_ _⟩) Au.fn⟩⟩
end
nonrec def rk(r:fP_)(xs:cs_)(i:Nat):Int:=(xs[i]?.map r).getD 0
def b7a{r:fP_}{xs:cs_}{c d:Nat}(hs:c<xs.size)(hd:d<=c)(k:Nat):rk r (bubble xs c d) k=if k=c - d then rk r xs c else if c - d<k/\k<=c then rk r xs (k - 1)else rk r xs k:=by
 unfold rk;rw[getElem?_bubble hs d hd k];split
 .rfl
 .split<;>rfl
def a9d{r:fP_}{xs:cs_}{i j:Nat}(hj:j<=xs.size)(k:Nat):rk r Ax! k=if i<=k/\k<j then rk r xs (i+j - 1 - k)else rk r xs k:=by unfold rk;rw[getElem?_mirror_all hj k];split<;>rfl
def pN{r:fP_}{xs:cs_}{i j:Nat}(hj:j<=xs.size)(he:∀k,i<=k->k<j->rk r xs k=rk r xs ez!)(k:Nat):rk r Ax! k=rk r xs k:=by
 rw[a9d hj];by_cases h:i<=k/\k<j
 .rw[IA h,he _ a! a!,he k h.1 h.2]
 .rw[HR h]
def Up(r:fP_)(xs:cs_)(n:Nat):Prop:=∀i j,i<=j->j<n->rk r xs i<=rk r xs j
def Dn(r:fP_)(xs:cs_)(n:Nat):Prop:=∀i j,i<=j->j<n->rk r xs j<=rk r xs i
structure SB(kd:SortKind)(a0:cs_)(st:SortSt):Prop where
 pm:(B!).Perm a0
 kn:kindOf st=kd
 fl:failedOf st=none
 pd:pendingOf st=#[]
def SB.sz{kd:SortKind}{a0:cs_}{st:SortSt}(h:ct!):(B!).size=a0.size:=h.pm.size_eq
def SB.put{kd:SortKind}{a0 xs:cs_}{st:SortSt}(h:ct!)(hp:xs.Perm B!):SB kd a0 (setArr st xs):=⟨hp.trans h.pm,h.kn,h.fl,h.pd⟩
section
variable{prog:x4!}{w:x5!}{A:x9!}{E:Value->Shared->Prop}{s:xA!}{a0:Array Keyed}{kd:SortKind}{r:Keyed->Int}
variable (prog w A s a0 kd r)in
def Uy:Prop:=∀(x y:Keyed) (F:p_) (Q:er!),x∈hW_->y∈hW_->Q (decide (r x<r y)) s->wpAny r_ A (keyLt' kd x.1 y.1) Q F s
def b6y{st:SortSt}{i j:Nat}{Q:Option Bool->SortSt->Prop}(hl:dB!)(b:ct!)(hi:i<a0.size)(hj:j<a0.size)(h:Q (some (decide (rk r B! i<rk r B! j))) st):wpS r_ A E s (ltAt' i j) Q st:=by
 have at_:∀k,k<a0.size->∃p,B![k]?=some p/\p∈hW_/\rk r B! k=r p:=λk hk=>by
  have cr:k<(B!).size:=by rw[b.sz];exact hk
  refine⟨B![k],Ax_,(Array.perm_iff_toList_perm.mp b.pm).mem_iff.mp d_,?_⟩;unfold rk;rw[Ax_];rfl
 obtain⟨x,ex,mx,rx⟩:=at_ i hi;obtain⟨y,ey,my,ry⟩:=at_ j hj;rw[rx,ry]at h;rw[ltAt'_eq];refine KI fR!;show wpS r_ A E s (elem' B! i>>=λx=>elem' B! j>>=λy=>lt' x y) Q st;rw[elem'_eq,elem'_eq,ex,ey];refine KI (LS (KI (LS ?_)));rw[lt'_eq];refine KI fR!;rw[b.kn];exact KI (wpS_lift (PL (hl x y _ _ mx my ⟨rfl,LS h⟩)))
def c5u{st:SortSt}{a n:Nat}{Q:AscSt->SortSt->Prop}(hl:dB!)(hn:fR_)(ha:1<=a)(ZO:a<=n)(b:ct!)(hu:Up r B! a)
  (h:∀m,a<=m->m<=n->Up r B! m->(m=n\/rk r B! m<rk r B! hX!)->Q (none,m) st):wpS r_ A E s (ascLoop a n) Q st:=by
 unfold ascLoop;refine QS (I:=λx c h2=>h2=st/\c=(none,x)/\Up r B! x) ?_ ?_ ⟨rfl,rfl,hu⟩
 .rintro x c h2 B Y ⟨rfl,rfl,u⟩;refine KI (b6y hl b (IV Y hn) a! ?_);by_cases q:rk r y! x<rk r y! hX_
  .rw[IT q];exact LS (h x B (NC Y) u (.inr q))
  .rw[IK q];refine LS ⟨rfl,rfl,Ay_⟩;obtain h5|h5:=LZ j x
   .exact u i j h3 h5
   .have:j=x:=by omega
    subst this;obtain h6|h6:=LZ i j
    .have:=u i ez! a! a!;omega
    .have:i=j:=by omega
     rw[this];exact MF _
 .rintro c h2 ⟨rfl,rfl,u⟩;rw[show max a n=n by omega]at u ⊢;exact h n ZO x_ u ao_
def b6v{st:SortSt}{m n:Nat}{Q:p7!}(hl:dB!)(hn:fR_)(B:1<=m)(hm:m<=n)(b:ct!)(hd:Dn r B! m)
  (h:p7_):wpS r_ A E s (tail3 m n) Q st:=by
 unfold tail3;have b':SB kd a0 (setArr st (mirror B! 0 m ((m - 0) / 2))):=b.put lb_;have hz:m<=(B!).size:=by rw[b.sz];omega
 refine KI (wpS_reverse (KI (c5u hl hn B hm b' (λi j h3 h4=>?_) λk h3 h4 u _=>LS (h k _ b' a! h4 u))));rw[a9d hz,a9d hz,S_,S_];exact hd _ _ a! a!
def c6x{st:SortSt}{m n:Nat}{Q:DescSt->SortSt->Prop}(hl:dB!)(hn:fR_)(B:1<=m)(hm:m<=n)(b:ct!)(hd:Dn r B! m)
  (h:∀k q h2,SB kd a0 h2->m<=k->k<=n->Dn r y! k->q+1<=k->(∀i,k - (q+1)<=i->i<k->rk r y! i=rk r y! (k - 1))->Q (none,k,q) h2):wpS r_ A E s (descLoop m n) Q st:=by
 unfold descLoop;refine QS (I:=λx c h2=>∃q,c=(none,x,q)/\SB kd a0 h2/\Dn r y! x/\q+1<=x/\∀i,x - (q+1)<=i->i<x->rk r y! i=rk r y! hX_) ?_ ?_ ⟨0,rfl,b,hd,t_,λi Y h3=>by rw[show i=m - 1 by omega]⟩
 .rintro x c h2 Y h3 ⟨q,rfl,b',d,hq,he⟩;have hz:x<=(y!).size:=by rw[b'.sz];omega
  refine KI (b6y hl b' (IV h3 hn) Az_ ?_);by_cases p:rk r y! x<rk r y! hX_
  .rw[IT p];have pi:∀xs:Array Keyed,(∀k,rk r xs k=rk r y! k)->Dn r xs (x+1):=λxs hk i j h4 h5=>by
    rw[hk,hk];obtain h6|h6:=LZ j x
    .exact d i j h4 h6
    .have:j=x:=by omega
     subst this;obtain h7|h7:=LZ i j
     .have:=d i ez! a! a!;omega
     .show"#9"
   by_cases tz:q>0
   .simp only[JT,tz];exact KI (wpS_reverse (LS ⟨0,rfl,b'.put lb_,pi _ (pN hz he),t_,AB_⟩))
   .simp only[JT,tz,JM];exact LS ⟨0,rfl,b',pi _ λ_=>rfl,t_,AB_⟩
  .rw[IK p];show"#&";refine KI (b6y hl b' Az_ (IV h3 hn) ?_);by_cases p2:rk r y! hX_<rk r y! x
   .rw[IT p2];exact LS (h x q h2 b' Y (NC h3) d hq he)
   .rw[IK p2];have ex:rk r y! x=rk r y! hX_:=by omega
    refine LS ⟨q+1,rfl,b',λi j h4 h5=>?_,t_,λi h4 h5=>?_⟩
    .obtain h6|h6:=LZ j x
     .exact d i j h4 h6
     .have:j=x:=by omega
      subst this;obtain h7|h7:=LZ i j
      .rw[ex];exact d i ez! a! a!
      .show"#9"
    .rw[show x+1 - 1=x by omega];obtain h6|h6:=LZ i x
     .rw[ex];exact he i a! h6
     .rw[show i=x by omega]
 .rintro c h2 ⟨q,rfl,b',d,hq,he⟩;rw[show max m n=n by omega]at d hq he ⊢;exact h n q h2 b' hm x_ d hq he
def b6x{st:SortSt}{m n:Nat}{Q:p7!}(hl:dB!)(hn:fR_)(hm:m+1<=n)(b:ct!)(hd:Dn r B! (m+1))
  (h:p7_):wpS r_ A E s (descPart m n) Q st:=by
 unfold descPart;refine KI (wpS_lift (LJ ⟨rfl,KI (c6x hl hn a! hm b hd λk q h2 b' B Y d hq he=>?_)⟩));by_cases tz:q>0
 .simp only[JT,tz];refine KI (wpS_reverse (b6v hl hn a! Y (b'.put lb_) (λi j h4 h5=>?_) h));have hz:k<=(y!).size:=by rw[b'.sz];omega
  rw[pN hz he,pN hz he];exact d i j h4 h5
 .simp only[tz,JM];exact b6v hl hn a! Y b' d h
def c2o{st:SortSt}{n:Nat}{Q:p7!}(hl:dB!)(hn:fR_)(B:1<=n)(b:ct!)(h:p7_):
  wpS r_ A E s (countRun' 0 n) Q st:=by
 rw[countRun0_eq];refine KI (c5u hl hn (IQ 1) B b (λi j h3 h4=>by rw[fT!];exact MF _) λm h3 h4 u ZP=>?_);by_cases e:m=n
 .simp only[LW,e,JT];rw[<-e];exact LS AD_
 .have ai:rk r B! m<rk r B! hX!:=ZP.resolve_left e;simp only[LW,e,JM];by_cases hg:m>1
  .simp only[hg,JT];refine KI (b6y hl b a! a! ?_);by_cases p:rk r B! 0<rk r B! hX!
   .rw[IT p];exact LS AD_
   .rw[IK p];have t3:∀k,0<=k->k<m->rk r B! k=rk r B! hX!:=λk _ hk=>by
     have a1:=u 0 k a! hk;have a2:=u k hX! a! a!;omega
    have hz:m<=(B!).size:=by rw[b.sz];omega
    refine KI (wpS_reverse (b6x hl hn a! (b.put lb_) AE! h));rw[pN hz t3,pN hz t3];obtain h7|h7:=LZ j m
    .rw[t3 i a! a!,t3 j a! h7];exact MF _
    .have:j=m:=by omega
     subst this;obtain h8|h8:=LZ i j
     .rw[t3 i a! h8];omega
     .show"#9"
  .simp only[hg,JM];have:m=1:=by omega
   subst this;refine b6x hl hn a! b AE! h;obtain h8|h8:=LZ i j
   .rw[show i=0 by omega,show j=1 by omega];exact Int.le_of_lt ai
   .show"#9"
def c8a{lo hi k x n:Nat}(h:¬lo>=hi)(g2:hi<=k)(g3:hi - lo<=k - x)(hk:k<n):lo<=cR! / 2/\cR! / 2<hi/\cR! / 2<k/\cR! / 2<n/\cR! / 2 - lo<=k - (x+1)/\hi - (cR! / 2+1)<=k - (x+1):=by omega
def d0n{st:SortSt}{n k0:Nat}{Q:Bool->SortSt->Prop}(hl:dB!)(hn:fR_)(hk:k0<=n)(b:ct!)(hu:Up r B! k0)(h:∀h2,SB kd a0 h2->Up r y! n->Q true h2):
  wpS r_ A E s (binarySort' 0 n k0) Q st:=by
 rw[binarySort'_eq];simp only[RO];refine KI (wpS_mono (QS (I:=λk c h2=>c=fB!/\SB kd a0 h2/\Up r y! (min k n)) (Q:=λc h2=>c=fB!/\SB kd a0 h2/\Up r y! n) ?_ ?_ ⟨rfl,b,Ay_⟩) ?_)
 .rintro k c h2 Y h3 ⟨rfl,b',u⟩;rw[show min k n=k by omega]at u;have kg:k<a0.size:=by omega
  refine KI (wpS_mono (QS (I:=λx c bf=>bf=h2/\∃lo hi,c=(none,lo,hi)/\lo<=hi/\hi<=k/\hi - lo<=k - x/\AF_/\∀i,hi<=i->i<k->rk r y! k<rk r y! i)
   (Q:=λc bf=>bf=h2/\∃lo hi,c=(none,lo,hi)/\lo<=k/\AF_/\∀i,lo<=i->i<k->rk r y! k<rk r y! i) ?_ ?_ ⟨rfl,0,k,rfl,t_,t_,t_,λi hi=>by omega,λi h4 h5=>by omega⟩) ?_)
  .rintro x c bf h4 h5 ⟨rfl,lo,hi,rfl,g1,g2,g3,g4,g5⟩;show"#+";by_cases zi:lo>=hi
   .rw[IA zi];have:lo=hi:=by omega
    subst this;exact LS AG!
   .rw[HR zi];obtain⟨m1,m2,m3,m4,m5,m6⟩:=c8a zi g2 g3 kg;refine KI (b6y hl b' kg m4 ?_);by_cases p:rk r ez_ k<rk r ez_ qa_
    .rw[IT p];exact LS ⟨rfl,lo,cR! / 2,rfl,m1,NC m3,m5,g4,λi h6 h7=>Int.lt_of_lt_of_le p (u qa_ i h6 h7)⟩
    .rw[IK p];exact LS ⟨rfl,cR! / 2+1,hi,rfl,m2,g2,m6,λi h6=>Int.le_trans (u i qa_ (Nat.le_of_lt_succ h6) m3) (Int.not_lt.mp p),g5⟩
  .rintro c bf ⟨rfl,lo,hi,rfl,g1,g2,g3,g4,g5⟩;have:lo=hi:=by omega
   subst this;exact AG!
  .rintro c bf ⟨rfl,lo,hi,rfl,g1,g4,g5⟩;rw[moveDown'_eq];refine KI (wpS_modify (LS ⟨rfl,b'.put (bubble_perm _ _ _),λi j h6 h7=>?_⟩));rw[show min R_ n=k+1 by omega]at h7;have og:k<(ez_).size:=by rw[b'.sz];exact kg
   rw[b7a og a!,b7a og a!,show k - (k - lo)=lo by omega];have n1:∀m,m<lo->rk r ez_ m<=rk r ez_ k:=g4;have n2:∀m,lo<=m->m<k->rk r ez_ k<rk r ez_ m:=g5;by_cases ei:i=lo
   .rw[IA ei];by_cases ej:j=lo
    .rw[IA ej];exact MF _
    .rw[HR ej];by_cases fj:lo<j/\j<=k
     .rw[IA fj];exact Int.le_of_lt (n2 ez! a! a!)
     .omega
   .rw[HR ei];by_cases fi:lo<i/\i<=k
    .rw[IA fi,HR a!,S_];exact u (i - 1) ez! a! a!
    .rw[HR fi];by_cases ej:j=lo
     .rw[IA ej];exact n1 i a!
     .rw[HR ej];by_cases fj:lo<j/\j<=k
      .rw[IA fj];exact u i ez! a! a!
      .rw[HR fj];exact u i j h6 a!
 .rintro c h2 ⟨e,b',u⟩;rw[show min (max (max k0 1) n) n=n by omega]at u;exact⟨e,b',u⟩
 .by_cases h0:k0=0
  .show"#9"
  .exact hu i j h3 a!
 .rintro c h2 ⟨rfl,b',u⟩;exact LS (h h2 b' u)
def b6w{st:SortSt}{Q:Unit->SortSt->Prop}(hl:dB!)(b:ct!)(Y:2<=a0.size)(om:a0.size<64)
  (h:∀h2,(y!).Perm a0->failedOf h2=none->Up r y! a0.size->Q () h2):wpS r_ A E s sortRuns' Q st:=by
 rw[sortRuns'_eq];refine KI fR!;have ZQ:minRun' a0.size a0.size 0=a0.size:=by
  have:∀f,minRun' (f+1) a0.size 0=a0.size:=λf=>by rw[minRun'_succ,IA om];rfl
  have q:=this (a0.size - 1);rwa[show a0.size - 1+1=a0.size by omega]at q
 dsimp only;simp only[b.sz,ZQ];have fin:∀{h2:SortSt},SB kd a0 h2->Up r y! a0.size->(arrOf ld_).Perm a0/\failedOf ld_=none/\pendingOf ld_=#[ld!]/\Up r (arrOf ld_) a0.size:=
  λ{h2} b' u=>⟨b'.pm,b'.fl,by show(AI!).push _=_;rw[b'.pd];rfl,u⟩
 refine KI (wpS_mono (QS (I:=λx c h2=>(x=0/\c=(none,0)/\SB kd a0 h2)\/(1<=x/\c=AJ!/\(y!).Perm a0/\failedOf h2=none/\pendingOf h2=#[ld!]/\Up r y! a0.size))
  (Q:=λc h2=>c=AJ!/\(y!).Perm a0/\failedOf h2=none/\pendingOf h2=#[ld!]/\Up r y! a0.size) ?_ ?_ (.inl ⟨rfl,rfl,b⟩)) ?_)
 .rintro x c h2 _ O (⟨rfl,rfl,b'⟩|⟨_,rfl,d⟩)
  .show"#+";rw[HR a!];simp only[Nat.sub_zero,Nat.min_self,RO];refine KI (c2o hl x_ a! b' λm bf b2 g1 g2 u2=>?_);by_cases ai:m<a0.size
   .simp only[ai,JT];refine KI (wpS_lift (LJ ⟨rfl,KI (d0n hl x_ g2 b2 u2 λvm b3 u3=>?_)⟩));simp only[LI,JA,JM];refine KI fR!;rw[show(pendingOf vm).back?=none by rw[b3.pd];rfl];exact KI (wpS_modify (LS (.inr ⟨IQ 1,rfl,fin b3 u3⟩)))
   .simp only[ai,JM];have:m=a0.size:=by omega
    subst this;refine KI fR!;rw[show(pendingOf bf).back?=none by rw[b2.pd];rfl];exact KI (wpS_modify (LS (.inr ⟨IQ 1,rfl,fin b2 u2⟩)))
  .show"#+";rw[IA x_];exact LS ⟨rfl,d⟩
 .rintro c h2 (⟨O,_⟩|⟨_,e,d⟩)
  .omega
  .exact⟨e,d⟩
 .rintro c h2 ⟨rfl,d1,d2,d3,d4⟩;refine KI (wpS_mono (QS (I:=λ_ c bf=>bf=h2/\c=fB!) (Q:=λc bf=>bf=h2/\c=fB!) ?_ AK_ bN_) ?_)
  .rintro x c bf _ _ ⟨rfl,rfl⟩;refine KI fR!;rw[IA (by rw[d3];exact IQ 1)];exact LS bN_
  .rintro c bf ⟨rfl,rfl⟩;exact LS (h _ d1 d2 d4)
end
abbrev Yn:Bool->SortKind:=sortPriv%PySem.Builtin.KeyKind.tuples
section
variable{prog:x4!}{w:x5!}{A:x9!}{E:Value->Shared->Prop}{s:xA!}
def Hz(h:Heap)(v:x6!)(a b:Int):Prop:=∃(p:xz!) (o:Obj) (n:Nat) (t u:Tok),v=.ref p/\h.get? p=some o/\o.cls=.type "tuple"/\o.data=.seq #[.int a t,.int b u] n
def CJ(a b c d:Int):Bool:=if a=c then decide (b<d)else decide (a<c)
def zI{f:Bool}{a b:Int}{Q:er!}(h:Q (decide (a<b)) s):wpAny r_ A (oneLt' f gG_ (.int b u)) Q E s:=by
 cases f with
 |true=>exact oneLt_int h
 |false=>
  rw[oneLt'_eq];rw[HR IR];refine HL (show wpAny r_ A (compareOp .Lt gG_ (.int b u)) _ E s from PyProof.Rows.lt_int ?_);exact JQ h
def xD{f:Bool}{a b c d:Int}{Q:er!}(O:Hz s.heap x a b)(hy:Hz s.heap y c d)(h:Q (CJ a b c d) s):wpAny r_ A (keyLt' (Yn f) x y) Q E s:=by
 obtain⟨p,o,n,t,u,rfl,B,_,Y⟩:=O;obtain⟨p',o',n',t',u',rfl,j9,_,oi⟩:=hy;refine HL (QT B Y (HL (QT j9 oi gu_)));show wpAny r_ A (forIn [((Value.int a t,Value.int c t'),0),((Value.int b u,Value.int d u'),1)] _ _) _ E s;rw[NI];refine HL (HL (QA a t c t' _ _ _ _ ?_));unfold CJ at h;by_cases e:a=c
 .rw[IA e]at h;have e1:(a==c)=true:=by simpa using e
  rw[e1];simp only[LI,JA,JM];refine HN ?_;show"#+";rw[NI];refine HL (HL (QA b u d u' _ _ _ _ ?_));by_cases e2:b=d
  .have e3:(b==d)=true:=by simpa using e2
   rw[e3];simp only[LI,JA,JM];refine HN ?_;dsimp only;rw[PN];refine HN af!;have e4:decide (b<d)=false:=by rw[e2];simp
   rw[e4]at h;simpa using h
  .have e3:(b==d)=false:=by simpa using e2
   rw[e3];simp only[PP,JT];exact HL AL_
 .rw[HR e]at h;have e1:(a==c)=false:=by simpa using e
  rw[e1];simp only[PP,JT];exact HL AL_
def b1c{α β:Type}{f:α->Sem β}{F:cT!}{Q:Array β->Shared->Prop}:∀(xs:N_),AM!->(∀ys,Paired F xs ys->Q ys.toArray s)->wpAny r_ A (xs.toArray.mapM f) Q E s:=by
 intro xs hf hq;rw[Array.mapM_eq_mapM_toList];have ke:∀(xs:N_) (R:List β->Shared->Prop),AM!->(∀ys,Paired F xs ys->R ys s)->wpAny r_ A (xs.mapM f) R E s:=by
  intro xs
  induction xs with
  |nil=>
   intro R _ h;rw[List.mapM_nil];exact HN (h [] .nil)
  |cons x xs ih=>
   intro R B Y;rw[List.mapM_cons];refine HL (B x HV _ λy hy=>HL (ih _ (λz hz=>B z le!) λys qh=>HN (Y _ (.cons hy qh))))
 have:(List.toArray<$>xs.toArray.toList.mapM f:Sem (Array β))=(xs.toArray.toList.mapM f>>=λl=>pure l.toArray):=by rw[map_eq_pure_bind]
 rw[this];exact HL (ke _ _ (by simpa using hf) λys qh=>HN (hq ys (by simpa using qh)))
def a6v{vs:i!}{Q:SortKind->Shared->Prop}(h:∀v∈vs,∃a b,Hz s.heap v a b)(h0:vs≠[])(hq:Q (Yn true) s):wpAny r_ A (keyKind' cA!) Q E s:=by
 refine HL (b1c (F:=λ_ y=>∃a t,y=some lf!) vs AN! λys qh=>?_)
 .obtain⟨a,b,p,o,n,t,u,rfl,B,Y,h3⟩:=h v hv;refine HL (wpAny_typeOf (T:="tuple") ok_ ?_);rw[HR c_];exact HL (QT B h3 (HN (hR _ ⟨a,t,rfl⟩)))
 .have fw:∀y∈ys,∃a t,y=some lf!:=by
   have ke:∀{l:i!} {m:List tX_},Paired (λ_ y=>∃a t,y=some lf!) l m->∀y∈m,∃a t,y=some lf!:=by
    intro l m hp
    induction hp with
    |nil=>intro y hy;cases hy
    |cons q _ ih=>
     intro y hy;obtain rfl|hy:=HQ.mp hy
     .exact q
     .exact ih y hy
   exact ke qh
  have b9:ys≠[]:=λz=>by subst z;cases qh;exact h0 rfl
  rw[IA (by rw[List.all_toArray,LG];intro y hy;obtain⟨a,t,rfl⟩:=fw y hy;rfl)];refine HL hq_;have hints:∀v∈(AO!).toList,∃a t,v=Value.int a t:=λv hv=>by
   simp only[List.filterMap_toArray,MZ,id]at hv;obtain⟨y,hy,e⟩:=hv;obtain⟨a,t,e2⟩:=fw y hy;rw[e2]at e;exact⟨a,t,(JN e).symm⟩
  have hz:(AO!).toList≠[]:=λz=>by
   cases ys with
   |nil=>exact b9 rfl
   |cons y r=>
    obtain⟨a,t,rfl⟩:=fw y HV;simp at z
  generalize hZ:ys.toArray.filterMap id=ZR at hints hz ⊢;obtain⟨zs⟩:=ZR;refine HL ?_;refine HL (b1c (F:=λ_ y=>y=Value.type "int") zs AN! λts VM=>?_)
  .obtain⟨a,t,rfl⟩:=hints v i8_;exact wpAny_typeOf (typeIs_int s a t) (hR _ rfl)
  .have VN:∀t∈ts,t=Value.type "int":=by
    have ke:∀{l m:i!},Paired (λ_ y=>y=Value.type "int") l m->∀y∈m,y=Value.type "int":=by
     intro l m hp
     induction hp with
     |nil=>intro y hy;cases hy
     |cons q _ ih=>
      intro y hy;obtain rfl|hy:=HQ.mp hy
      .exact q
      .exact ih y hy
    exact ke VM
   cases ts with
   |nil=>cases VM;exact absurd rfl hz
   |cons t r=>
    have ht:=VN t HV;subst ht;have e1:((AO_).toArray)[0]?=some (Value.type "int"):=rfl;rw[e1];have e2:((AO_).toArray.all λx=>x==Value.type "int")=true:=by
     rw[List.all_toArray,LG];intro y hy;rw[VN y hy];rfl
    show"#+";rw[IA e2];exact HN (HN hq)
end
def Lh(p q:dB_):Bool:=CJ p.1 p.2 q.1 q.2
def uQ{p q:dB_}:Lh p q=true↔(p.1<q.1\/(p.1=q.1/\p.2<q.2)):=by
 unfold Lh CJ;split
 .rename_i h;rw[JE];omega
 .rename_i h;rw[JE];omega
def b2t(p:dB_):Lh p p=false:=by
 cases h:Lh p p with
 |false=>rfl
 |true=>have:=uQ.mp h;omega
def jV{p q r:dB_}(B:Lh p q=true)(Y:Lh q r=true):Lh p r=true:=by rw[uQ]at B Y ⊢;omega
def a2l{p q:dB_}(h:p≠q)(B:Lh p q=false):Lh q p=true:=by
 have j9:¬Lh p q=true:=by rw[B];simp
 rw[uQ]at j9 ⊢;have:¬(p.1=q.1/\p.2=q.2):=λz=>h (Prod.ext z.1 z.2);omega
section
variable{α:Type}(kf:α->Int×Int)
def Rh(x:α):List α->List α
 |[]=>[x]
 |y::r=>if Lh (kf x) (kf y)then x::y::r else y::Rh x r
def Jo:List α->List α
 |[]=>[]
 |x::r=>Rh kf x (Jo r)
def Pb(l:N_):Prop:=l.Pairwise λx y=>Lh (kf x) (kf y)=true
variable {kf}
def sL(x:α):∀l:List α,(Rh kf x l).Perm (x::l)
 |[]=>OP _
 |y::r=>by
  unfold Rh;split
  .exact OP _
  .exact((sL x r).cons y).trans (List.Perm.swap x y r)
def cL:∀l:List α,(Jo kf l).Perm l
 |[]=>OP _
 |x::r=>(sL x _).trans ((cL r).cons x)
def xJ{x:α}:∀{l:N_},Pb kf l->(∀y∈l,kf x≠kf y)->Pb kf (Rh kf x l)
 |[],_,_=>List.pairwise_singleton _ _
 |y::r,h,hn=>by
  unfold Rh;unfold Pb at h;rw[KL]at h;split
  .rename_i ai;refine KL.mpr ⟨lf_,KL.mpr h⟩;obtain rfl|hz:=HQ.mp hz
   .exact ai
   .exact jV ai (h.1 z hz)
  .rename_i ai;refine KL.mpr ⟨lf_,xJ h.2 λz hz=>hn z le!⟩;obtain rfl|hz:=HQ.mp ((sL x r).mem_iff.mp hz)
   .exact a2l (hn y HV) yI_
   .exact h.1 z hz
def jQ:∀{l:N_},(l.map kf).Nodup->Pb kf (Jo kf l)
 |[],_=>ju_
 |x::r,h=>by
  rw[HZ,IN]at h;refine xJ (jQ h.2) λy hy e=>h.1 ?_;rw[e];exact IE ((cL r).mem_iff.mp hy)
def pJ:∀{l m:N_},Pb kf l->Pb kf m->l.Perm m->l=m
 |[],m,_,_,h=>(List.Perm.nil_eq h)
 |x::l,m,B,Y,h=>by
  cases m with
  |nil=>exact absurd h.length_eq d_
  |cons y m=>
   have e:x=y:=by
    obtain e|O:=HQ.mp (h.mem_iff.mp HV)
    .exact e
    .obtain e|hy:=HQ.mp (h.symm.mem_iff.mp HV)
     .exact e.symm
     .have a1:=(KL.mp B).1 y hy;have a2:=(KL.mp Y).1 x O;have:=jV a1 a2;rw[b2t]at this;cases this
   subst e;rw[pJ (KL.mp B).2 (KL.mp Y).2 ((List.perm_cons x).mp h)]
def b8a{β:Type}{f:lh!}{l m:dF!}(h:l.Perm m):∀{av:N_},m=av.map f->∃L':List α,L'.Perm av/\L'.map f=l:=by
 induction h with
 |nil=>intro av e;exact⟨[],by rw[List.map_eq_nil_iff.mp e.symm],rfl⟩
 |cons x _ ih=>
  intro av e;cases av with
  |nil=>cases e
  |cons y av=>
   injection e with e1 e2
   obtain⟨L',B,Y⟩:=ih e2;exact⟨y::L',B.cons y,by rw[HZ,Y,e1]⟩
 |swap x y l=>
  intro av e
  match av,e with
  |a::b::av,e=>
   injection e with e1 e2
   injection e2 with e3 e4
   exact⟨b::a::av,List.Perm.swap a b av,by rw[HZ,HZ,<-e1,<-e3,<-e4]⟩
 |trans _ _ ZS ZT=>
  intro av e;obtain⟨L2,B,Y⟩:=ZT e;obtain⟨L1,h3,h4⟩:=ZS Y.symm;exact⟨L1,h3.trans B,h4⟩
def Jp(ks:fT_)(k:dB_):Int:=((ks.filter λx=>Lh x k).length:Nat)
def rQ{ks:fT_}{p q:dB_}(hp:p∈ks)(h:Lh p q=true):Jp ks p<Jp ks q:=by
 unfold Jp;have ke:∀l:List hZ_,(AQ!).length<=(AQ_).length:=by
  intro l
  induction l with
  |nil=>simp
  |cons x l ih=>
   simp only[RS];by_cases O:Lh x p=true
   .simp only[O,jV O h,JT,IH];omega
   .by_cases hy:Lh x q=true
    .simp only[O,hy,JT,IH];show"#&";omega
    .simp only[O,hy];show"#&";exact ih
 have ZU:∀l:List hZ_,p∈l->(AQ!).length<(AQ_).length:=by
  intro l hl
  induction l with
  |nil=>cases hl
  |cons x l ih=>
   obtain e|hl:=HQ.mp hl
   .subst e;have:=ke l;simp only[RS,b2t,h,JT,IH,JA,JM];omega
   .have:=ih hl;simp only[RS];by_cases O:Lh x p=true
    .simp only[O,jV O h,JT,IH];omega
    .by_cases hy:Lh x q=true
     .simp only[O,hy,JT,IH];show"#&";omega
     .simp only[O,hy];show"#&";show"#D"
 have:=ZU ks hp;omega
def b1s{ks:fT_}{p q:dB_}(hp:p∈ks)(hq:q∈ks):decide (Jp ks p<Jp ks q)=Lh p q:=by
 cases h:Lh p q with
 |true=>exact IT (rQ hp h)
 |false=>
  refine IK λz=>?_;by_cases e:p=q
  .subst e;omega
  .have:=rQ hq (a2l e h);omega
end
section
open Classical
variable{h:Heap}
def Hz.inj{a b c d:Int}(x:Hz h v a b)(y:Hz h v c d):aa_=(c,d):=by
 obtain⟨p,o,n,t,u,rfl,B,_,Y⟩:=x;obtain⟨p',o',n',t',u',e,j9,_,oi⟩:=y;cases e;rw[B]at j9;cases j9;rw[Y]at oi;injection oi with h3 _
 have:=congrArg Array.toList h3;simp at this;rw[this.1.1,this.2.1]
def Lz(h:Heap)(v:x6!):Int×Int:=if x:∃a b,Hz h v a b then(x.choose,x.choose_spec.choose)else(0,0)
def qL{a b:Int}(x:Hz h v a b):Lz h v=aa_:=by have z:∃a b,Hz h v a b:=⟨a,b,x⟩;unfold Lz;rw[dif_pos z];exact z.choose_spec.choose_spec.inj x
def sV{kf:D->Int×Int}{av:li!}{on a0:cs_}(ha:hW_=av.map b_)(hk:∀q∈av,Hz h q.1.1 (kf q.2).1 (kf q.2).2)(nd:(qe!).Nodup)(hp:on.Perm a0)
  (hu:Up AR! on a0.size):∃L':List (Keyed×D),L'.Perm av/\on.toList=L'.map b_/\L'.map C_=Jo kf qd_:=by
 have bo:on.toList.Perm hW_:=Array.perm_iff_toList_perm.mp hp;obtain⟨L',B,Y⟩:=b8a bo ha;refine⟨L',B,Y.symm,pJ ?_ (jQ nd) ((B.map _).trans (cL _).symm)⟩;have gb:((L'.map C_).map kf).Nodup:=(((B.map _).map _).nodup_iff).mpr nd;unfold Pb;rw[PM];intro i j hi hj wp;have c8:i<fU_:=by simpa using hi
 have zj:j<fU_:=by simpa using hj
 have hsz:on.size=fU_:=by rw[<-JV,<-Y,IF]
 have bm:a0.size=fU_:=by rw[<-JV,ha,IF,B.length_eq]
 have VO:∀k (cr:k<fU_),rk AR! on k=Jp qe! (kf L'[k].2):=λk cr=>by
  unfold rk;have e:on[k]?=some L'[k].1:=by
   rw[<-NM,<-Y,JG,IM cr];rfl
  rw[e];show Jp _ (Lz h L'[k].1.1)=_;rw[qL (hk L'[k] AT_)]
 have nz:=hu i j (NC wp) a!;rw[VO i c8,VO j zj]at nz;simp only[List.getElem_map];have mem:∀k (cr:k<fU_),kf L'[k].2∈(qd_).map kf:=λk cr=>IE (IE AT_);have ne:kf L'[i].2≠kf L'[j].2:=λe=>by
  have q:=(List.getElem_inj (i:=i) (j:=j) (h₀:=by simpa using c8) (h₁:=by simpa using zj) gb).mp cS!;omega
 cases ai:Lh (kf L'[i].2) (kf L'[j].2)with
 |true=>rfl
 |false=>
  have:=rQ (mem j zj) (a2l ne ai);omega
end
def b0z(a v:x6!):argsOk "list.sort" AU!:=by unfold argsOk;kernel_rfl
def a4h(a v:x6!):argsOk "sorted" AU!:=by unfold argsOk;kernel_rfl
section
variable{X:Cx}{J:List (Addr×Obj)}{Z:St}{G H:Hp}{s:xA!}{A:x9!}{E:Value->Shared->Prop}
def c2q{k:Nat}{sp:Sp}{Q:VK}(F:Fj X.prog X.w X.K X.mg X.base Pz k f fd ps sp)(L:gy_)(hb:jY!)(e0:Rm X.prog X.w X.K X.mg X.base A X.stack s H)
  (I:d!)(r:eK!)(h:sp vs H Q E0):wpAny e_ A (call aj_ us) aN! E s:=by
 have hl:(us++[]).length=T_:=by rw[JC,<-r.length];exact F.len _ _ _ _ h
 have df:=hb s us I.kIn hl;rw[JC]at df;refine wpAny_call (RB (F.run A X.stack s H db! us vs Q E0 L e0 df r h) λr s' hq=>?_);cases r with
 |error e=>exact hq.elim
 |ok fl=>
  cases fl with
  |ret u=>exact I.after hq
  |next=>exact False.elim hq
  |brk=>exact False.elim hq
  |cont=>exact False.elim hq
def Ms:D->Option hZ_
 |.tup [.int a,.int b]=>some aa_
 |_=>none
def a5u{a b:Int}(I:d!)(sub:M_)(r:b0_)(e:Ms d=some aa_):Hz s.heap u a b:=by
 unfold Ms at e;show"!6"
 .cases e;obtain⟨v,r,ru⟩:=r;show"!X";cases ru;show"!4";cases bD r1;cases bD r2;show"#3";obtain⟨x,y,rfl,⟨t,rfl⟩,⟨u,rfl⟩⟩:=a4o rv;exact⟨p,o,n,t,u,rfl,B,Y,h3⟩
 .cases e
def Nk(g:ai!):List D->Option (List hZ_)
 |[]=>some []
 |d::r=>(g [d]).bind λx=>(Ms x).bind λk=>(Nk g r).map (k::·)
def d0o{oc':Obj}{h':Heap}{t':Nat}(I:Inv X (J++[eA_,(c,oc)]) Z H s)(hc:Ji X J H c)(iq:a≠c)(kp:∀b o,b≠c->s.heap.get? b=some o->h'.get? b=some o)(ho:h'.get? c=some oc')(hd:∀v,oc'.data≠.cell v):
  Inv X (J++[eA_,(c,oc')]) Z H {s with heap:=h',toks:=t'}:=by
 have pa:=I.pin eA_ (II _ d_);have I1:Inv X qh! Z H s:=I.pins_of λp hp=>I.pin p (II _ (by
  obtain z|z:=HU.mp hp
  .exact IS _ z
  .exact II _ (by simp at z;simp[z])))
 have kh:∀b∈[c],Ji X qh! H b:=λb hb=>by
  have e:b=c:=by simpa using hb
  subst e;obtain⟨f0,f1,f2,f3,f4,f5⟩:=hc;refine⟨f0,f1,f2,f3,f4,eH!⟩;obtain z|z:=HU.mp hp
  .exact f5 p (IS _ z)
  .obtain z|z:=HU.mp z
   .exact f5 p iI_
   .have:p=eA_:=by simpa using z
    rw[this];exact iq
 have I2:Inv X qh! Z H {s with heap:=h',toks:=t'}:=kB I1 kh λb o hb e=>kp b o gm! e;refine I2.pins_of λp hp=>?_;obtain z|z:=HU.mp hp
 .exact I2.pin p (II _ (IS _ z))
 .obtain z|z:=HQ.mp z
  .subst z;exact I2.pin _ fW_
  .have:p=(c,oc'):=by simpa using z
   subst this;exact⟨ho,hc.1,hc.2.1,hc.2.2.1,hd⟩
def zY{k:Nat}{ps:p!}{g:ai!}{body:Value->PUnit->Sem zG!}{Q:zE_}(F:AV!)(L:qj!)(hb:jY!)(lm:T_=1)(iq:a≠c)
  (pv:∀x (R:ForInStep PUnit->Shared->Prop) s,wpAny e_ X.A.in1.in1 (call aj_ [x]) (λk s'=>wpAny e_ X.A.in1.in1 (Builtin.List.listUpdate (.ref c) (·.push k)) (λ_ s2=>R (.yield ⟨⟩) s2) E s') E s->wpAny e_ X.A.in1.in1 (body x ⟨⟩) R E s):
  ∀{ds:b!} {us:i!} {kd:b!} {ku:i!} {n:Nat} {ks:fT_} {s:xA!} {G H:Hp},Inv X (J++[eA_,AV_]) Z H s->Bj G H->Paired cR_ ds us->Paired cR_ kd ku->Nk g ds=some ks->
   (∀H':Hp,H' c=none->Ji X J H' c)->qj_+f_<=1000->
   (∀s' H' G' qi t6 n',Inv X (J++[eA_,(c,seqObj "list" (ku++qi).toArray n')]) Z H' s'->Ck G H G' H'->Paired (Cy X.K G') (kd++t6) (ku++qi)->Paired ql! t6 ks->Q ⟨⟩ s')->
   wpAny e_ X.A.in1.in1 (forIn us ⟨⟩ body) Q E s
 |_,_,kd,ku,n,ks,s,G,H,I,sub,.nil,pk,e,st,hl,hq=>by
  rw[PN];cases e;refine HN (hq s H G [] [] n ?_ aR_ ?_ .nil)
  .rw[JC];exact I
  .rw[JC,JC];exact pk
 |d::ds,u::us,kd,ku,n,ks,s,G,H,I,sub,.cons r t,pk,e,st,hl,hq=>by
  show"!r";obtain⟨v,rv,ru⟩:=r;rw[NI];simp only[IH]at hl;refine HL (pv u _ s (dO (c2q (vs:=[v]) (Q:=λv' H'=>∃G',Ck G H G' H'/\Au X.K G' x v') F L hb I.env0.in1.in1 I u4_ ⟨lm.symm,G,[d],x,sub,Ao.cons rv Ao.nil,e1,λv' G' H' x' r'=>⟨G',x',r'⟩⟩) λkv s1 ⟨v1,H1,I1,ZW,G1,x1,r1⟩=>?_));have pc:=I1.pin AV_ fW_;refine PB pc.1 rfl ?_ lm! (by simp only[Array.size_push,HX];rw[JY];omega);have e4:=QL pc.1 (·.push kv);have I2:=d0o (oc':=seqObj "list" (ku++[kv]).toArray (if(ku.toArray.push kv).size==ku.toArray.size then n else n+1)) (t':=s1.toks) I1 (st H1 pc.2.1) iq (λb o hb e=>(uI_).trans e) (by rw[e4,List.push_toArray]) vF!;refine zY F L hb lm iq pv I2 x1.sub (Paired.mapP t λ_ _ z=>z.mono x1.g) (jH (Paired.mapP pk λ_ _ z=>z.mono x1.g) (.cons ⟨v1,r1,ZW⟩ .nil)) e3 st zG_ λs' H' G' qi t6 n' I' x' p' k'=>?_;refine hq s' H' G' (kv::qi) (x::t6) n' ?_ (x1.trans x') ?_ (.cons e2 k')
  .rw[JL]at I';exact I'
  .rw[JL,JL]at p';exact p'
end
def Jb(g:ai!)(d:D):Int×Int:=((g [d]).bind Ms).getD (0,0)
def xC{g:ai!}:∀{ds:b!} {ks:fT_},Nk g ds=some ks->ks=ds.map eB!
 |[],_,e=>by cases e;rfl
 |d::r,ks,e=>by
  show"!r";rw[HZ,<-xC e3];congr 1;unfold Jb;rw[e1];show q=(Ms x).getD _;rw[e2];rfl
section
variable{X:Cx}{J:List (Addr×Obj)}{Z:St}{G H:Hp}{s:xA!}{A:x9!}{E:Value->Shared->Prop}
def wK{P:Value->D->Prop}{R:D->Value->Prop}:∀{ku us:i!} {ds:b!},Paired P ku ds->Paired R ds us->∀q∈(h1_).zip ds,P q.1.1 q.2/\R q.2 q.1.2
 |_,_,_,.nil,.nil,q,h=>by simp at h
 |_,_,_,.cons p t,.cons r u,q,h=>by
  rw[PJ,PJ]at h;obtain rfl|h:=HQ.mp h
  .exact⟨p,r⟩
  .exact wK t u q h
def jG{α β γ:Type}{R:cT!}{f:γ->α}{h:γ->β}:∀{l:List γ},(∀q∈l,R (f q) (h q))->Paired R h2! (l.map h)
 |[],_=>.nil
 |q::r,hh=>.cons (hh q (HV ..)) (jG λz hz=>hh z le!)
def gL{α β:Type}{R:cT!}:∀{l:N_} {m:dF!},Paired R l m->al_=m.length
 |_,_,.nil=>rfl
 |_,_,.cons _ t=>by rw[IH,IH,gL t]
def sW{G:Hp}{kf:D->Int×Int}(hp:∀d u a b,Cy X.K G d u->Ms d=some aa_->Hz h u a b):∀{kd:b!} {ku:i!} {ds:b!},Paired cR_ kd ku->Paired ql! kd (ds.map kf)->Paired (λv d=>Hz h v (kf d).1 (kf d).2) ku ds
 |_,_,[],.nil,_=>.nil
 |_,_,_::_,.nil,h=>by cases h
 |_,_,[],.cons _ _,h=>by cases h
 |_,_,_::_,.cons r t,.cons k u=>.cons (hp _ _ _ _ r k) (sW hp t u)
def d0h{st:SortSt}{us':i!}{ku:i!}{e e1:Nat}{P:lo!}(zk:(B!).map C_=oA_)(hz:us'.length<64)(VE:qj_<64)(hf:failedOf st=none)(iq:a≠c)
  (gi:qm_)(kh:AX_)(I:AY!)
  (hP:∀s' n',Inv X J Z H s'->s'.heap.get? a=some h3_->P h4! s'):wpAny e_ A AZ_ P E s:=by
 have pa:=I.pin lp! fW_;have pc:=I.pin AX! fW_;unfold ksk_tail;show"#+";rw[zk];refine HL (PB pc.1 rfl ?_ lm! bY_);refine HL (QN ?_);have ea:(s.heap.update c A0!).get? a=some qn!:=(KG _ _ (HY iq)).trans pa.1;refine HL (seqEpoch_at ea rfl ?_);show"#&";refine HL (PB ea rfl ?_ bY_ lm!);rw[hf];simp only[RJ,JA,JM];have I1:Inv X J Z H s:=I.unpinned;refine HN (hP _ _ (kB (wr:=[a,c]) (t':=s.toks) I1 ii! λb o hb q=>?_) (QL ea λ_=>oA_))
 .obtain rfl|hb:=HQ.mp hb
  .exact gi H pa.2.1
  .rw[lp_];exact kh H pc.2.1
 .have B:b≠a:=λz=>hb (by rw[z];exact HV ..);have Y:b≠c:=λz=>hb (by rw[z];exact HP _ (HV ..));exact(KG _ _ (HY B)).trans ((KG _ _ (HY Y)).trans q)
def d2v{g:ai!}{ds:b!}{us ku:i!}{e e1:Nat}{P:lo!}(om:f_<64)(nd:(ds.map eB!).Nodup)(iq:a≠c)
  (gi:qm_)(kh:AX_)(I:AY!)(sub:M_)
  (pu:qo!)(pk:Paired cR_ kd ku)(kk:Paired ql! kd (ds.map eB!))
  (hP:∀s' us' n',Inv X J Z H s'->Paired cR_ qo_ us'->s'.heap.get? a=some h3_->P h4! s'):wpAny e_ A (ksk_end a false us.toArray e1 (.ref c) ku.toArray) P E s:=by
 have z:=sW (X:=X) (h:=s.heap) (λd u a b r q=>a5u I sub r q) pk kk;have l1:ao!=f_:=(gL pu).symm;have l2:qj_=f_:=gL z;have mem:=wK z pu;have jq:(lq_).toList=(h4_).map b_:=by
  rw[ksk_zip,A2!]
 have hd:(h4_).map C_=ds:=List.map_snd_zip qp!;have fin:∀{L':li!} {st:SortSt},L'.Perm h4_->(B!).toList=L'.map b_->L'.map C_=Jo eB! ds->failedOf st=none->wpAny e_ A AZ_ P E s:=λ{L' st} B Y h3 h4=>by
  refine d0h (us':=L'.map (·.1.2)) ?_ (by rw[IF,B.length_eq,KN,KN];omega) a! h4 iq gi kh I λs' n' I' e'=>hP s' _ n' I' ?_ e'
  .apply A3_;rw[Array.toList_map,Y,JR];rfl
  .rw[<-h3];exact jG λq hq=>(mem q (B.mem_iff.mp hq)).2
 unfold ksk_end;show"#+";show"#&";by_cases Y:ke_<2
 .rw[IA Y,IA Y];refine HL af!;rw[StateT.run_pure];refine HL af!;show"#+";refine fin (L':=(h1_).zip ds) (OP _) jq ?_ rfl;rw[hd];rw[HX,l1]at Y
  match ds,Y with
  |[],_=>rfl
  |[x],_=>rfl
  |_::_::r,Y=>simp at Y;omega
 .rw[HR Y,HR Y];rw[HX]at Y;refine HL (a6v (vs:=ku) A4_ (λz=>by rw[z]at l2;simp at l2;omega) ?_)
  .show"!g"
  .have hsz:(lq_).size=f_:=by rw[<-JV,jq,IF,KN,KN];omega
   have hk:∀q∈(h1_).zip ds,Hz s.heap q.1.1 (qq_).1 (qq_).2:=λq hq=>(mem q hq).1;have gb:(h5!).Nodup:=by rw[hd];exact nd
   refine HL (KS (b6w (kd:=Yn true) (a0:=ku.toArray.zip cD_) (r:=λp=>Jp h5! A5!) (Q:=λ_ h2=>(y!).Perm lq_/\failedOf h2=none/\Up (λp=>Jp h5! A5!) y! (lq_).size)
    (A5_) A6! A6_ A7! λh2 a1 a2 a3=>A7_) ?_ λ_ _ e=>e)
   .rw[jq]at O hy;obtain⟨p,hp,rfl⟩:=IP.mp O;obtain⟨q,a9,rfl⟩:=IP.mp hy;refine xD lr_ ls! ?_;have mm:∀p∈(h1_).zip ds,Jb g p.2∈((h4_).map C_).map eB!:=λp hp=>IE (IE hp);have hh:decide A8!=Lh (Jb g p.2) qq_:=by
     show"#?"
    have t9:Q (decide A8!) s:=hq;rw[hh]at t9;exact t9
   .show"!E";exact fin b1 b2 A8_ a2
def d0g{k:Nat}{ps:p!}{g:ai!}(F:AV!)(L:qj!)(hb:jY!)(lm:T_=1)
  {us:i!}{ds:b!}{n:Nat}{ks:fT_}{P:lo!}(I:d!)(sub:M_)(pu:qo!)(ha:A9!)(ir:ic_)
  (gi:qm_)(ek:Nk g ds=some ks)(nd:hA_)(om:f_<64)
  (hP:∀s' H' G' us' n',Inv X J Z H' s'->Ck G H G' H'->Paired (Cy X.K G') qo_ us'->H' a=none->s'.heap.get? a=some h3_->P h4! s'):
  wpAny e_ X.A.in1.in1 (ksk_tree a aj_ false) P E s:=by
 have l1:ao!=f_:=(gL pu).symm;have ZX:=xC ek;obtain⟨e1,ua⟩:∃e1,(s.heap.update a (Obj.mapSeq λ_=>(#[]:Array Value))).get? a=some (seqObj "list" #[] e1):=A9_;unfold ksk_tree;refine HL Ba!;refine HL Bb!;refine HL Ba_;refine HL Bb_;refine HL (RW ?_ bY_);refine JS ?_;have hsz:(ct_).objs.size=q_+1:=by rw[size_push',Heap.size_update]
 show wpAny _ _ (ksk_rest a aj_ false us.toArray e1 (.ref (ct_).objs.size)) P E {s with heap:=(ct_).push cu!};have j0:(qr!).get? (ct_).objs.size=some cu!:=IU _ rfl;rw[hsz]at j0 ⊢;have iq:a≠q_+1:=JK (Nat.lt_succ_of_lt (IY ha));have kh:∀H':Hp,H' ae_=none->Ji X J H' ae_:=λH' q=>I.fpOk (OC _) q;have md:(qr!).get? a=some qn!:=HS _ (HS _ ua);have I1:Inv X J Z H {s with heap:=(ct_).push cu!}:=
  kB (wr:=[a]) (t':=s.toks) I (λb hb=>by rw[lp_];exact gi H ir) λb o hb q=>HS _ Bd!
 have fa:=gi H ir;have fc:=kh H tG_;have I2:Inv X (J++[lp!,(q_+1,seqObj "list" (vD_).toArray 0)]) Z H {s with heap:=(ct_).push cu!}:=I1.pins_of λp hp=>by
  obtain z|z:=HU.mp hp
  .exact I1.pin p iI_
  .obtain rfl|z:=HQ.mp z
   .exact⟨md,ir,fa.2.1,fa.2.2.1,jH!⟩
   .rw[bu_];exact⟨j0,fc.1,fc.2.1,fc.2.2.1,jH!⟩
 generalize q_+1=c at *;unfold ksk_rest;refine HL hq_
 first
  |rw[List.forIn_toArray]
  |(rw[<-Array.forIn_toList];simp only[List.toList_toArray])
  |rw[<-Array.forIn_toList]
 refine HL (KS (zY (E:=vG!) (Q:=λ_ s'=>wpAny e_ X.A.in1.in1 _ P E s') F L hb lm iq (λx R s' O=>?_) I2 sub pu .nil ek kh (by rw[MN];omega) λs' H' G' qi t6 n' I' x' p' k'=>?_) AK_ λ_ _ z=>z.elim)
 .refine HL (PL (KS O (λkv s2 hk=>?_) λ_ _ z=>z.elim));show"#+";exact HL (KS hk (λ_ s3 z=>HN z) λ_ _ z=>z)
 .rw[KZ]at I';rw[KZ,KZ]at p';have pc:=I'.pin (c,seqObj "list" qi.toArray n') fW_;have pa:=I'.pin lp! fW_;refine HL (QT pc.1 rfl ?_);rw[ZX]at k' nd;exact d2v om nd iq gi kh I' x'.sub (Paired.mapP pu λ_ _ z=>z.mono x'.g) p' k' λs3 us' n3 I3 p3 e3=>hP s3 H' G' us' n3 I3 x' p3 pa.2.1 e3
def AE(g:ai!)(ds:b!):Option aQ_:=(Nk g ds).bind λks=>if hA_/\f_<64 then some qo_ else none
def Vm(g:ai!)(fa:e!):Ad->Option D:=λρ=>(fj_).bind λd=>match d with
 |.lst ds=>(AE g ds).map D.lst
 |_=>none
def lQ{K:xB!}:∀{ds:b!} {vs:l_} {us:i!},Ao K G ds vs->Bc vs us->Paired fX_ ds us
 |[],vs,us,r,p=>by cases cM r;cases p;exact .nil
 |d::ds,vs,us,r,p=>by
  obtain⟨v,t,rfl,r1,r2⟩:=bN r;cases p with
  |cons a b=>exact .cons ⟨v,r1,a⟩ (lQ r2 b)
def lR{K:xB!}:∀{ds:b!} {us:i!},Paired fX_ ds us->∃vs,Ao K G ds vs/\Bc vs us
 |_,_,.nil=>⟨[],Ao.nil,.nil⟩
 |_,_,.cons ⟨v,r,p⟩ t=>let⟨vs,r2,p2⟩:=lR t;⟨v::vs,Ao.cons r r2,.cons p p2⟩
def b1i{us':i!}{n':Nat}{s0:xA!}{H0:Hp}{ds:b!}{Q:VK}(I0:Inv X J Z H0 s0)(I:d!)(sub:M_)(hs:Aj_<=a)(pu:Paired cR_ ds us')(hz:f_<=sizeLine)(ho:s.heap.get? a=some h3_)(hn:ic_)
  (hQ:∀v G' H',Ck G H G' H'->Au X.K G' cj! v->Q v H'):EP X J Z Q ae! s:=by
 obtain⟨vs,r,p⟩:=lR pu;have f:=I0.fpOk hs hn;refine⟨dW!,upd H a dl_,I.track ho p (by rw[<-aJ r];exact hz) hn ?_ f.2.1 f.2.2.2.2.1 f.2.2.2.2.2,rfl,hQ _ _ _ (Ck.laid sub hn) ?_⟩
 .exact JD I0.sz hs
 .exact Au.lst (Fn.of bV) (r.mono (λb u e=>by rw[bC (λz=>by rw[z]at e;rw[sub _ _ e]at hn;cases hn)];exact e))
def a0r:bootBuiltins "sorted"=some lt!:=by decide+kernel
def a1a{us:i!}{Q:p_}(hl:s.heap.IsList l cD_)(hz:ao!<64)
  (h:wpAny e_ X.A.in1.in1 (ksk_tree ae_ aj_ false) (λfin s'=>∃v,fin=.done (.ret v)/\Q (.ref ae_) s') E {s with heap:=(lt_).push lu!}):
  wpAny e_ X.A (call lt! [hV_] [(Str.ofString "key",.ref f)]) Q E s:=by
 refine call_function_entry_kw kind_sorted plain_sorted entry_sorted (a4h _ _) ?_;unfold Builtin.«sorted»;refine HL (m:=Be_) af!;refine HL (collect_list hl ?_ Bf!);refine HL (RW ?_ Bf!);have hsz:(lt_).objs.size=q_+1:=by
  rw[Heap.size_update,size_push']
 have lf:((lt_).push lu!).get? ae_=some lu!:=by
  rw[<-hsz];exact IU _ rfl
 show wpAny _ _ _ _ _ {s with heap:=(lt_).push lu!};rw[hsz];refine HL (JS (wpAny_call_entry_kw slot_list_sort Bf_ entry_list_sort ?body (b0z _ _)))
 case body=>
  rw[ksk_t1];refine KS h (λfin s' hq=>?_) λ_ _ z=>z;obtain⟨v,rfl,hq⟩:=hq;exact⟨v,rfl,HN ⟨_,rfl,hq⟩⟩
variable{own:List Nat}{fa:Ad->Option D}{e:Expr}{pos p p2 kp:Pos}{x:Str}
def c1a{k:Nat}{ps:p!}{g:ai!}(F:xe_)(L:qj!)(ZY:X!)(zl:Gl X "sorted")(ZZ:X.mg "sorted"=none)(ha:DE X own e fa)(lm:T_=1:=by rfl)(be:H!:=by decide)
  (he:j6_:=by rfl):
  DE X own (.Call (.Name "sorted" p) [e] [⟨some "key",cH!,kp⟩] pos) (Vm g fa):=⟨by
 obtain⟨hr,fd,B,Y,h3,h4⟩:=F;intro J s Z H Q I ⟨G,ρ,d,er,e1,kq⟩;obtain⟨d0,e2,e1⟩:=HM.mp e1;cases d0 with
 |lst ds=>
  obtain⟨sk,e3,rfl⟩:=IB.mp e1;obtain⟨ks,e4,e5⟩:=HM.mp e3;have p9:hA_/\f_<64:=by
   by_cases z:hA_/\f_<64
   .exact z
   .rw[HR z]at e5;cases e5
  rw[IA p9]at e5;cases e5;have da:=(aD ha aK he).ok;refine ML (mG I zl ZZ a0r ?_ c_ c_);refine callWith_kw (dO (da pos J s Z H _ I ⟨G,ρ,[.lst ds],er,by unfold Ac Ag;rw[e2];rfl,λvs G1 H1 x1 r1=>(⟨G1,x1,r1⟩:∃G1,Ck G H G1 H1/\Ao X.K G1 [.lst ds] vs)⟩) λus s1 ⟨vs,H1,I1,r,G1,x1,r1⟩=>?_) Bg_ Bg_ rfl rfl;refine kws_cons (kQ I1 ZY h3 (kws_nil ?_) be);obtain⟨v,t,rfl,rv,rr⟩:=bN r1;cases cM rr;obtain⟨l,xs,rfl,sq,rx⟩:=bU rv;obtain⟨its,hv,pl,hz⟩:=I1.list (x1.sub.seq sq);cases r with
  |cons ra rb=>
   cases rb;cases ra;show wpAny e_ X.A (call lt! [hV_] [(Str.ofString "key",.ref hr)]) _ _ s1;have lz:gO!=f_:=by rw[<-hv.length,<-aJ rx]
   obtain⟨nn,sl,ho⟩:=oN pl;refine a1a (us:=its) ⟨_,ho,rfl,nn,rfl⟩ (by rw[lz];exact p9.2) ?_;have keep:∀b o,s1.heap.get? b=some o->(Bj!).get? b=some o:=λb o q=>by
    have ai:b<E!:=IY q;exact HS _ ((Heap.get?_update_ne _ _ _ _ (JK ai)).trans ((Heap.get?_push_ne _ _ _ (JK ai)).trans q))
   have hsz:(Bi!).objs.size=E!+1:=by
    rw[Heap.size_update,size_push']
   have lf:(Bj!).get? (E!+1)=some Bi_:=by
    rw[<-hsz];exact IU _ rfl
   have I2:=I1.kept (t':=s1.toks) keep;have bp:E!<=E!+1:=OC _;refine d0g B L Y lm I2 x1.sub (lQ rx hv) lf (I1.hok.fresh bp) (λH' q=>I1.fpOk bp q) e4 p9.1 p9.2 λs3 H3 G3 us3 n3 I3 x3 p3 Z0 zm=>oK!;exact b1i I1 I3 x3.sub bp p3 Bk! zm Z0 λv G4 H4 x4 r4=>kq v G4 H4 (x1.trans (x3.trans x4)) r4
 |_=>cases e1⟩
end
def b1h{es:ad_}{ep:Nat}(hd:Ab!):W.KdlSrc P w "dict" d d es.length pW! (λh=>Pd h d es ep) where
 type:=λ_ hm=>hm.typeIs
 there:=λ_ hm=>let⟨_,ho,_⟩:=hm;⟨IY ho,IY ho⟩
 keep:=λ_ _ hm hk=>hm.at λo e=>hk d ao_ o e
 notList:=by decide
 notTuple:=by decide
 hint:=λ_ _ _ _ hm hq=>W.kdl_hint_dict hm.typeIs hq
 iter:=λ_ _ hh hm=>⟨_,_,(λ_ _ hq=>c0d hd hm hq),b3q hh _ d (let⟨_,ho,_⟩:=hm;JK ie_) es ep,⟨eR!,hm.at λo e=>HS _ e⟩⟩
section
variable{X:Cx}{J:List (Addr×Obj)}{Z:St}{G H:Hp}{s:xA!}{A:x9!}{E:Value->Shared->Prop}
def c8f{K:xB!}{kvs:h_}{es:ad_}{acc:W!}(ok:fF!)(hi:qu_):Paired fX_ fE_ h6_:=by
 have ea:h6_=es.map kC_:=by
  apply RL;intro i;rw[JG];by_cases h:i<ai_
  .have B:i<acc.size:=by rw[hi.1];exact h
   show"!h"
  .rw[qv!,JZ a!];rfl
 rw[ea];have:∀{kvs:h_} {es:ad_},Paired qv_ kvs es->Paired fX_ fE_ eC!:=λ{kvs es} h=>by
  induction h with
  |nil=>exact .nil
  |cons a _ ih=>exact .cons a ih
 exact this qw!
def Nn(d:D):Int×Int:=(Ms d).getD (0,0)
def Xd(ds:b!):Option aQ_:=if lx_=true/\(ly!).Nodup/\f_<64 then some ly_ else none
def d0f{us:i!}{ds:b!}{n:Nat}{P:lo!}(I:d!)(sub:M_)(pu:qo!)(ha:A9!)(ir:ic_)
  (gi:Ji X J H a)(ek:lx_=true)(nd:(ly!).Nodup)(om:f_<64)
  (hP:∀s' us' n',Inv X J Z H s'->Paired cR_ ly_ us'->s'.heap.get? a=some h3_->P h4! s'):
  wpAny e_ A (Builtin.«list.sort» nx_) P E s:=by
 have l1:ao!=f_:=(gL pu).symm;obtain⟨e1,ua⟩:∃e1,(s.heap.update a (Obj.mapSeq λ_=>(#[]:Array Value))).get? a=some (seqObj "list" #[] e1):=A9_;rw[list_sort_plain];refine HL Ba!;refine HL Bb!;refine HL Ba_;refine HL Bb_;refine HL (RW ?_ bY_);refine JS ?_;show wpAny _ _ _ P E {s with heap:=(ct_).push cu!};have I1:Inv X J Z H {s with heap:=(ct_).push cu!}:=
  kB (wr:=[a]) (t':=s.toks) I qy_ λb o hb q=>HS _ Bd!
 have md:(qr!).get? a=some qn!:=HS _ (HS _ ua);generalize (ct_).push cu!=h3 at I1 md ⊢;have pk:∀d∈ds,Ms d=some (Nn d):=λd hd=>by
  have:=LG.mp ek d hd;unfold Nn;cases q:Ms d with
  |none=>rw[q]at this;cases this
  |some z=>rfl
 have z:Paired qz! us ds:=by
  have gen:∀{ds:b!} {us:i!},Paired cR_ ds us->(∀d∈ds,Ms d=some (Nn d))->Paired qz! us ds:=λ{ds us} h=>by
   induction h with
   |nil=>exact λ_=>.nil
   |cons r _ ih=>exact λhk=>.cons (a5u I1 sub r (hk _ (HV ..))) (ih λd hd=>hk d (HP _ hd))
  exact gen pu pk
 have mem:=wK z pu;have jq:(fY!).toList=(eC_).map b_:=by
  rw[ksk_zip,A2!]
 have hd:(eC_).map C_=ds:=List.map_snd_zip qp!;have fin:∀{L':li!} {st:SortSt},L'.Perm eC_->(B!).toList=L'.map b_->L'.map C_=Jo Nn ds->failedOf st=none->
   P h4! {s with heap:=h3.update a (Obj.mapSeq λ_=>(B!).map C_)}:=λ{L' st} b1 b2 b3 b4=>by
  have zk:(B!).map C_=(qz_).toArray:=by
   apply A3_;rw[Array.toList_map,b2,JR];rfl
  rw[zk];refine hP _ _ _ (kB (s:={s with heap:=h3}) (wr:=[a]) (t':=s.toks) I1 qy_ λb o hb q=>(Bc_).trans q) ?_ (QL md λ_=>(qz_).toArray);rw[<-b3];exact jG λq hq=>(mem q (b1.mem_iff.mp hq)).2
 have VP:∀{L':li!} {st:SortSt},L'.Perm eC_->(B!).toList=L'.map b_->((B!).map C_).size<=sizeLine+1:=λ{L' st} b1 b2=>by
  rw[Array.size_map,<-JV,b2,IF,b1.length_eq,KN,KN,JY];omega
 by_cases Y:ke_<2
 .rw[IA Y,IA Y];refine HL af!;show"#+";rw[StateT.run_pure];refine HL af!;show"#+";refine HL qA!;refine HL (PB md rfl ?_ bY_ (VP (L':=(fY_).zip ds) (OP _) jq));simp only[failedOf,RJ,JA,JM];refine HN (fin (L':=(fY_).zip ds) (st:=SortSt.mk' general' fY! #[] 7 none) (OP _) jq ?_ rfl);rw[hd];rw[HX,l1]at Y
  match ds,Y with
  |[],_=>rfl
  |[x],_=>rfl
  |_::_::r,Y=>simp at Y;omega
 .rw[HR Y,HR Y];rw[HX]at Y;refine HL (a6v (vs:=us) A4_ (λz=>by rw[z]at Y;simp at Y) ?_)
  .show"!g"
  .have hsz:(fY!).size=f_:=by rw[<-JV,jq,IF,KN,KN];omega
   have hk:∀q∈(fY_).zip ds,Hz h3 q.1.1 (Nn q.2).1 (Nn q.2).2:=λq hq=>(mem q hq).1;have gb:(fZ_).Nodup:=by rw[hd];exact nd
   refine HL (KS (b6w (kd:=Yn true) (a0:=us.toArray.zip cD_) (r:=λp=>Jp fZ_ (Lz h3 p.1)) (Q:=λ_ h2=>(y!).Perm fY!/\failedOf h2=none/\Up (λp=>Jp fZ_ (Lz h3 p.1)) y! (fY!).size)
    (A5_) A6! A6_ A7! λh2 a1 a2 a3=>A7_) ?_ λ_ _ e=>e)
   .rw[jq]at O hy;obtain⟨p,hp,rfl⟩:=IP.mp O;obtain⟨q,a9,rfl⟩:=IP.mp hy;refine xD lr_ ls! ?_;have mm:∀p∈(fY_).zip ds,Nn p.2∈((eC_).map C_).map Nn:=λp hp=>IE (IE hp);have hh:decide qA_=Lh (Nn p.2) (Nn q.2):=by
     show"#?"
    have t9:Q (decide qA_) {s with heap:=h3}:=hq;rw[hh]at t9;exact t9
   .show"!E";refine HL qA!;refine HL (PB md rfl ?_ bY_ (VP b1 b2));rw[a2];simp only[RJ,JA,JM];exact HN (fin b1 b2 A8_ a2)
def Xf(f:List V->VK->Hp->Prop):List V->Hp->VK->Prop:=λxs H Q=>∃d es ep ys,xs=[.ref d]/\H d=some dA!/\Bc ys eC!/\f ys Q H
def tQ{es:ad_}{acc:W!}(hi:qu_):h6_=es.map kC_:=by
 apply RL;intro i;rw[JG];by_cases h:i<ai_
 .have B:i<acc.size:=by rw[hi.1];exact h
  show"!h"
 .rw[qv!,JZ a!];rfl
def yW(hc:a6_):Jn X d3! qB_:=by
 intro J s Z H xs us Q I r ⟨d,es,ep,ys,e1,e2,hv,k⟩;subst e1;cases r with
 |cons ra rb=>
  cases rb;cases ra;obtain⟨⟨h3,h4,h5⟩,_⟩:=qC!;refine W.kdl_call (b1h h4) bz_ h3 fH! λh' tk acc c hk hs hi=>?_;have hn:H q_=none:=I.hok.fresh x_;have f:=I.fpOk (H':=H) x_ hn;refine⟨dd!,upd H s.heap.objs.size ba!,?_,rfl,k _ hn⟩;have ia:=tQ hi;refine(I.kept (t':=tk) hk).track (us:=h6_) (n:=c) (by rw[Array.toArray_toList];exact hs) (by rw[ia];exact hv) ?_ hn I.sz f.2.1 f.2.2.2.2.1 f.2.2.2.2.2;rw[hv.length,IF];exact cS h5
def Rf(M:Mh):List D->Option D
 |[d]=>(Ef M d).map λq=>.lst hU_
 |_=>none
def zX{K:xB!}{kvs:h_}{es:ad_}(ok:fF!):∃ys,Ao K G fE_ ys/\Bc ys eC!:=by
 have:∀{kvs:h_} {es:ad_},Paired qv_ kvs es->Paired fX_ fE_ eC!:=λ{kvs es} h=>by
  induction h with
  |nil=>exact .nil
  |cons a _ ih=>exact .cons a ih
 exact lR (this qw!)
def c1l{K:xB!}:Sn P w K qB_ Rf:=by
 show"!T";unfold Rf at e;show"!6"
 .obtain⟨q,e1,rfl⟩:=IB.mp e;show"!>";exact⟨q.1,es,q.2.2,ys,rfl,B,g2,λl hl=>k _ _ _ zk! (dP (sub.free hl) g1)⟩
 .cases e
def Xe(K:xB!):List V->Hp->VK->Prop:=λxs H Q=>∃G ds,Bj G H/\(∃d es ep,xs=[.ref d]/\H d=some dA!/\Paired fX_ ds eC!)/\lx_=true/\(ly!).Nodup/\f_<64/\∀v G' H',Ck G H G' H'->Au K G' (.lst ly_) v->Q v H'
def yV(hc:a6_):Jn X lt! (Xe X.K):=by
 intro J s Z H xs us Q I r ⟨G,ds,sub,⟨d,es,ep,e1,e2,hv⟩,q1,q2,q3,k⟩;subst e1;cases r with
 |cons ra rb=>
  cases rb;cases ra;obtain⟨⟨h3,h4,h5⟩,_⟩:=qC!;have lz:ai_=f_:=by rw[gL hv,IF]
  refine Calls.call_function_entry kind_sorted plain_sorted entry_sorted (args_sorted1 _) ?_;unfold Builtin.«sorted»;refine HL (m:=Be_) af!;refine HL (W.kdu_collect (b1h h4) bz_ h3 fH! λh' tk acc hk hi=>?_);have ia:=tQ hi;refine HL (RW ?_ (by rw[ia,IF,JY];omega));rw[ia];have I1:=I.kept (t':=tk) hk;have lf:(h'.push h9_).get? h'.objs.size=some h9_:=IU _ rfl;have I2:Inv X J Z H {s with heap:=h'.push h9_,toks:=tk}:=I1.kept (t':=tk) λb u q=>HS _ q;have hn:H h'.objs.size=none:=I1.hok.fresh x_;refine HL (JS (JO slot_list_sort Bf_ entry_list_sort ?body (args_list_sort _)))
  case body=>
   refine d0f (s:={s with heap:=h'.push h9_,toks:=tk}) I2 sub hv lf hn (I1.fpOk x_ hn) q1 q2 q3 λs3 us3 n3 I3 p3 zm=>⟨_,rfl,HN oK!⟩;exact b1i I1 I3 sub x_ p3 Bk! zm hn k
def Ss(M:Mh):List D->Option D
 |[d]=>(Ef M d).bind λq=>(Xd hU_).map D.lst
 |_=>none
def c1j{K:xB!}:Sn P w K (Xe K) Ss:=by
 show"!T";unfold Ss at e;show"!6"
 .obtain⟨q,e1,e⟩:=HM.mp e;obtain⟨l,e2,rfl⟩:=IB.mp e;unfold Xd at e2;split at e2
  .rename_i hz;cases e2;show"!>";exact⟨G,_,sub,⟨q.1,es,q.2.2,rfl,B,lQ g1 g2⟩,hz.1,hz.2.1,hz.2.2,k⟩
  .cases e2
 .cases e
end
def Vg(M:Mh):D->D
 |.fn a=>match M a with|some (.lst xs)=>.lst xs|_=>.fn a
 |d=>d
def Sj(M:Mh)(x y:D):Option D:=Eu (Vg M x) (Vg M y)
def b1t{P:x4!}{w:x5!}{K:xB!}{M:Mh}{G H:Hp}(sub:M_)(m:co_)(r:cF_):Au K H (Vg M d) v:=by
 cases d<;>first|exact r.mono sub|skip
 rename_i a;simp only[Vg];split
 .rename_i xs hM;show"!|";cases fZ r;exact Au.lst (Fn.of B) (Y.mono sub)
 .exact r.mono sub
def lT{P:x4!}{w:x5!}{K:xB!}:Yj P w K (AI K) Sj:=by
 show"!_";unfold Sj Eu at e;show"!6"
 .show"!t";cases e;exact⟨_,_,b1t sub m rx,b1t sub m ry,h.1.1,h.1.2,h.2,ek_⟩
 .cases e
def Db(K:xB!)(C:xz!)(m qual:Str)(st:Stmt)(ps:p!):Prop:=∃hr fd,Ye K m qual st hr fd/\Ex K fd ps []/\Ws K C m hr
def Va(K:xB!)(mg:y_)(x:Str)(C:xz!)(qual:Str)(st:Stmt)(ps:p!):Prop:=mg x=some az_/\∃hr fd,Ye K "__init__" qual st hr fd/\Ex K fd ps []/\Mk K C hr
section
variable{P:x4!}{w:x5!}{K:xB!}{mg:Str->Option Value}{base h:Heap}{x qual:Str}{st:Stmt}{N ps:List Str}{k:Nat}{hx:List Nat}{q:WS}{C:xz!}
def cC(d:x8!)(S:d6!)
  (hb:∀{hr:xz!} {af:x6!} {A:x9!} {outer:aw_} {s:xA!} {H:Hp} {E:XK},Ak k oX!->Vq (oX_).nox [] hx bT_ q):
  La P w K mg base R_ x ps k9!:=by
 obtain⟨hr,fd,F,h1,m⟩:=d;exact⟨hr,fd,lE!,h1,m,F.kp⟩
def cH(c:Vb K C)(d:Db K C x qual st ps)(S:d6!)
  (hb:qF_):
  Dt P w K mg base R_ C x ps k9!:=by
 obtain⟨hr,fd,F,h1,m⟩:=d;exact⟨c,hr,fd,m,lE!,h1⟩
def a2a(d:Va K mg x C qual st ps)(S:d6!)
  (hb:qF_):
  Wr P w K mg base R_ x C ps k9!:=by
 obtain⟨m,hr,fd,F,h1,mk⟩:=d;exact⟨m,hr,fd,mk,lE!,h1⟩
def dJ{od an:a8_}{du:cc!}{kV:x6!}
  (a:W.findIn K az_ x=some eX_)(i:mL!)(l:vo!)
  (c:i5_)(k:gT!)
  (b:vn!):Db K C x qual st ps:=
 ⟨f,_,kx_,oZ_,⟨a,i,k⟩⟩
def b9g{od an:a8_}{du:cc!}{kV:x6!}(m:mg x=some az_)
  (a:s6!)(i:mL!)(l:K.lookup f=some ⟨oc,od,.func qG_,du⟩)
  (c:i5_)(k:gT!)(mm:s5_)(kc:W.keepIn K az_=true)
  (b:∀(kV bn pm:x6!) (an:a8_) (af ct:x6!) (us:i!),ao!=T_->bindArgs qG_ db!=pure da!):Va K mg x C qual st ps:=
 ⟨m,f,_,kx_,oZ_,⟨mm,a,i,kc⟩⟩
def c3y(hd:AX K mg x st [y])(S:Aj N [y] bE!)(gi:mg x=some fa!)
  (hb:∀(base:Heap) (hr:xz!) (af:x6!) (A:x9!) (outer:aw_) (s:xA!) (H:Hp) (E:XK),Ak k oX!->Vq (oX_).nox [] hx bT_ q):
  ∃fd:FuncData,(∀(s:xA!) (u:x6!),BindsTo s fd jx! [(y,u)])/\∀base:Heap,K.In base->base.Ns mainGlobals mg->Fj P w K mg base Pz R_ fa fd [y] (Yh P w K 1 (Cf N 1 q)):=by
 obtain⟨f,fd,F,h1,m⟩:=hd;rw[gi]at m;cases m;exact⟨fd,λs u=>.of_eq (h1 [u] rfl),λbase _ _=>uU F S λaf A outer s H E L=>hb base _ af A outer s H E L⟩
def nX{α:Type}{p:f3!}(h:∀a,p [a]):∀us:List α,ao!=1->p us
 |[a],_=>h a
def lK{α:Type}{p:f3!}(h:∀a b,p ak_):∀us:List α,ao!=2->p us
 |[a,b],_=>h a b
def us3{α:Type}{p:f3!}(h:∀a b c,p eE!):∀us:List α,ao!=3->p us
 |[a,b,c],_=>h a b c
def us4{α:Type}{p:f3!}(h:∀a b c d,p [a,b,c,d]):∀us:List α,ao!=4->p us
 |[a,b,c,d],_=>h a b c d
def us5{α:Type}{p:f3!}(h:∀a b c d e,p [a,b,c,d,e]):∀us:List α,ao!=5->p us
 |[a,b,c,d,e],_=>h a b c d e
def M0:Mh:=λ_=>none
def c3x{g:WF}{H:Hp}{ns:z!}(hS:Fn K H a cd!)(hg:g lG_ M0 λd _=>d=.bl true):Yh P w K 1 g bj! H jy! λ_ _ _=>False:=
 ⟨rfl,H,lG_,M0,_,Bj.refl H,⟨λa c e=>by cases e⟩,Ao.cons (Au.lst hS (a0c ns)) Ao.nil,hg,λd M' v G' H' r _ _ q=>by subst r;exact cW q⟩
end
end DL
namespace L2
open PySem PySem.Spec PyProof.Rows
def c2w{X:Cx}{i:Nat}{tg:Expr}{scope:Scope}{pos:Pos}{NL:p!}{ix:m_}{wi:TI}{g:TG}{tt:TT}{te:TE}
  (hN:bx!)(c8:ap_)(O:bx_)
  (cg:dh_)(ce:di!)(j3:∀y∈cg_,y.2=.local->scope.names.lookup y.1=some .local)
  (ie:g1!)(cap:dh!)(calm:a6_)(ax:mq!)
  (hg:g1_)(hi:vJ!)(he:vJ_)
  (hs:c6_:=by intro _;rfl)
  (j6:swapsWith ib_ (some iA_) pos.line X.env=pure true:=by rfl)
  (hf:X.fn x=true\/X.env.scope.names.lookup x=some .local:=by first|exact .inl rfl|exact .inr rfl|assumption):
  PS X (.Assign [.Name x ig] ib_ pos) (AD vK! eO!):=by
 intro J s Z H D I h;show"!R"
 rw[exec_Assign_Name_used x ig _ pos j6];refine HL (QM gu_);unfold evalThenUse;refine HL (wpAny_comprehension_free (use:=some _) rfl hs b8.eq cg j3 vK_);obtain⟨it,fp,tn,ac,H2,e,I2,T,bf,f2,hw⟩:=Y;subst e;refine a0o (RR:=λacc C=>compPost e_ X.A X.xe (some _) _ acc C) cg ce b8 cap calm (hg cl) (hi cl) (he cl) I2 T bf f2 hw λD' C us n ys H' s' I' eD rv am nD hD hC ji nC ⟨m,hn⟩ fin=>?_;have f7:∀b,b<P!->b≠C/\b≠D':=λb hb=>vM!;have p6:∀x c,X.env.cells.lookup x=some c->c<P!:=λx c h=>let⟨_,_,ho,_⟩:=I2.cell x c h;IY ho;have r9:∀p∈X.pn++J,p.1<P!:=λp hp=>IY (I2.pin p hp).1;have ID:=I'.track (D:=D') (us:=us) (n:=n) eD rv am nD (JD I2.sz hD) (HY (g2!).2) vO_ λp hp=>(jI!).2;show wpAny e_ X.A (assign iA_ X.env (.ref D')) _ _ s';refine HL (m:=standAt ig) (QM ?_);refine wpAny_bindName (zA ID hN c8 O (v:=.ref D') rfl (λs3 I3 ⟨a,sb,ha⟩=>?_) hf);have Z1:a≠C:=by
  obtain rfl|ha:=ha
  .exact(g2!).1
  .exact(f7 _ (p6 _ _ ha)).1
 refine⟨m,hn.sameBut sb (HY Z1),λh' bx=>?_⟩;have Z2:upd H' D' ba! C=none:=by rw[bC (HY ji)];exact nC
 have IC:Inv X J (Z.set i (some (.ref D'))) (upd H' D' ba!) {s3 with heap:=h',toks:=s3.toks}:=I3.turned (it:=C) vM_ Z2 (HY (g2!).1) vN! vO! λp hp=>(jI!).1;exact HN (HN ⟨_,_,IC,fin D' nD⟩)
end L2
namespace DL
open PySem PySem.Spec PyProof.Rows L2
section
variable{X:Cx}{own:List Nat}{tg:Expr}{fi:WI}{ft:WT}
def pX{i:Nat}{scope:Scope}{pos p2:Pos}{NL:p!}{ix:m_}{g:TG}{bnd:an!}{fe:WE}
  (hN:bx!)(c8:ap_)(O:bx_)
  (cg:dh_)(ce:di!)(j3:∀y∈cg_,y.2=.local->scope.names.lookup y.1=some .local)
  (ie:g1!)(cap:dh!)(nj:jO_)(calm:a6_)(ax:pS!)
  (hg:g1_)(nu:oq_)(hi:z2_)(he:z3!)
  (bq:bp!:=by decide)(hs:c6_:=by intro _;rfl)
  (j6:swapsWith ib_ (some do_) pos.line X.env=pure true:=by rfl)
  (hf:X.fn x=true\/X.env.scope.names.lookup x=some .local:=by first|exact .inl rfl|exact .inr rfl|assumption):
  MS X own own (.Assign [cH!] ib_ pos) (An i z3_):=
 pY (c2w hN c8 O cg ce j3 ie cap calm ax.ok hg hi wG! hs j6 hf) λM0 G0 F0 E Z G H ρ M R sr e k1 k2=>⟨G,ρ,M,_,sr.st,e,λds ck M1 ac G1 H1 r1 x1 m1 f8=>by
  obtain⟨hb,r1⟩:=r1;have p5:=sr.st.grow x1 m1;refine b3g hb f8 nu z4_ r1 λjj ys M' G' H' r x m q _ p hp=>?_;exact k1 _ M' _ _ _ r ((((zR!).grow x m).grow (.ext hg_) (m.ext hg_)).set bq (dP or! q))⟩
end
end DL
namespace DL
open PySem PySem.Spec PyProof.Rows L2
def Xs:List D->Option D
 |[.int i,.int j]=>some sT!
 |_=>none
def c9k{K:xB!}:So K sT_ Xs:=by
 show"!K";unfold Xs at e;show"!6"
 .obtain⟨v,t,rfl,rv,rr⟩:=bN r;obtain⟨v2,rfl,j7⟩:=eX rr;cases bD rv;cases bD j7;cases e;exact⟨_,_,rfl,do!⟩
 .cases e
def c9o:bootBuiltins "min"=some sS_:=by decide+kernel
section
def yE(l:xz!)(items:W!)(n:Nat)(x:x6!)(e:Value->Bool)(j:Nat)(hj:j<bk_)(ax:qL!)(k:Nat)(bp:ne!):
  ∀i:Nat,j - i=k->i<=j->(∀m (hm:m<bk_),i<=m->m<j->e items[m]=false)->Meets (Builtin.«list.remove.loop» ⟨[hV_,x,rawInt i],[]⟩)
   qN!:=by
 induction k with
 |zero=>
  intro i hk wp m8 prog w A R s h;obtain⟨hp,g,d,tk,os⟩:=s;obtain⟨hl,he,h⟩:=h;have Z3:i=j:=by omega
  subst Z3
  wp_walk using MV hl
  have hi:items[(aG_).toNat]?=some items[i]:=by simp[hj]
  rw[hi];refine HL (he _ (Array.getElem_mem hj) prog w _ _ ?_);rw[ax];have Z4:(items.eraseIdxIfInBounds i).size<=sizeLine+1:=JD (PySem.MeetsSeq.size_erased items _) (RK bp)
  wp_walk using(wpAny_updateSeq hl rfl (hz:=bp) (_hz':=Z4)),MV hl
  simpa using h
 |succ k ih=>
  intro i hk wp m8 prog w A R s h;obtain⟨hp,g,d,tk,os⟩:=s;obtain⟨hl,he,h⟩:=h;have ai:i<bk_:=by omega
  wp_walk using MV hl
  have hi:items[(aG_).toNat]?=some items[i]:=by simp[ai]
  have hc:((i:Int)+1)=((i+1:Nat):Int):=by omega
  rw[hi];refine HL (he _ (Array.getElem_mem ai) prog w _ _ ?_);rw[m8 i ai x_ a!]
  wp_walk
  rw[hc];exact⟨plainId_quiet MH _,codeAny_builtin RG (by
   rw[qO!];exact ih aX_ a! a! (λm hm B Y=>m8 m hm a! Y) prog w A R _ ⟨hl,he,h⟩)⟩
def yK(l:xz!)(items:W!)(n:Nat)(x:x6!)(e:Value->Bool)(j:Nat)(hj:j<bk_)(ax:qL!)(m8:∀m (hm:m<bk_),m<j->e items[m]=false)(bp:ne!):
  Meets (Builtin.«list.remove» ⟨[hV_,x],[]⟩)
   qN!:=by
 intro prog w A R s h;obtain⟨hp,g,d,tk,os⟩:=s;obtain⟨hl,he,h⟩:=h
 wp_walk using MV hl
 exact⟨plainId_quiet MH _,codeAny_builtin RG (by
  rw[qO!];exact yE l items n x e j hj ax _ bp 0 rfl bY_ (λm hm _ Y=>m8 m hm Y) prog w A R _ ⟨hl,he,h⟩)⟩
end
section
variable{X:Cx}{own:List Nat}{e a b o tg:Expr}{pos p2 p ag ab:Pos}{f fa fb fo:WE}
def EX(K:xB!):V->List V->Hp->VK->Prop:=λx vs H Q=>∃l xs y dx ds j,x=.ref l/\vs=[y]/\H l=some R!/\Au K H dx y/\Ao K H ds xs/\Bh dx=true/\Bp ds=true/\Dj ds<=40/\ds.findIdx? (λd=>Dw d dx)=some j/\Q .non (upd H l (.lst (xs.eraseIdx j)))
def b0m{J:n_}{Z:St}{H:Hp}(I:d!):∀{ds:b!} {vs:l_} {us:i!},Ao X.K H ds vs->Bc vs us->Bp ds=true->∀(m:Nat) (h:m<ao!) (h':m<f_),Tq X.K H x us[m]=Dw ds[m] x
 |[],vs,us,r,rv,_=>λm h h'=>by cases h'
 |d::ds,vs,us,r,rv,n=>λm h h'=>by
  obtain⟨v,t,rfl,r1,r2⟩:=bN r;unfold Bp at n;rw[IZ]at n;cases rv with
  |cons ll j7=>
   cases m with
   |zero=>exact b0l I ⟨v,r1,ll⟩ n.1
   |succ m=>exact b0m I r2 j7 n.2 m _ _
def b5i(hu:au!):DX X "list.remove" (EX X.K):=by
 intro J s Z H x vs v us Q I rx rv h;obtain⟨l,xs,y,dx,ds,j,rfl,rfl,hH,ry,rd,n1,n2,hd,hj,q⟩:=h;cases rx;obtain⟨u,rfl,ru⟩:=rv.one;obtain⟨z,its,n,r,hl,e⟩:=I.lstM hH;have B:=aJ rd;have Y:=aN_;obtain⟨Z5,Z6,Z7⟩:=OK.mp hj;refine RF F.slot_list_remove de! F.entry_list_remove (F.args_list_remove_2 _ _) (yK l its.toArray n u ev! j jm! ?_ (λm hm Z8=>?_) jm!) ⟨e,λw hw=>nN I ry ru n1 rd r n2 (by have:=jX X.A;omega) w i9_,?_⟩
 .rw[List.getElem_toArray,b0m I rd r n2 j _ Z5];exact Z6
 .rw[List.getElem_toArray,b0m I rd r n2 m _ a!];simpa using Z7 m Z8
 .refine⟨.non,_,I.lset (its':=its.eraseIdx j) hH e ?_ (r.eraseIdx j) ?_,rfl,q⟩
  .show its.toArray.eraseIdxIfInBounds j=(its.eraseIdx j).toArray;rw[List.eraseIdxIfInBounds_toArray]
  .have:=zV xs j;omega
def Vt(fo fa:WE):WE:=λρ M R=>fo ρ M λd M1=>Dx pC_ λ_=>fa ρ M1 λv M2=>Dx pD_ λq=>Bh v=true/\Bp q.2=true/\Dj q.2<=40/\Dx (q.2.findIdx? λx=>Dw x v) λj=>R .non (Bd M2 q.1 (.lst (q.2.eraseIdx j)))
def a9e{K:xB!}{G:Hp}(j:Nat):∀{ds:b!} {vs:l_},Ao K G ds vs->Ao K G (ds.eraseIdx j) (vs.eraseIdx j):=by
 induction j with
 |zero=>
  intro ds vs r;cases ds with
  |nil=>cases cM r;exact r
  |cons d ds=>obtain⟨v,t,rfl,r1,r2⟩:=bN r;exact r2
 |succ j ih=>
  intro ds vs r;cases ds with
  |nil=>cases cM r;exact r
  |cons d ds=>obtain⟨v,t,rfl,r1,r2⟩:=bN r;exact Ao.cons r1 (ih r2)
def c3u(hu:au!)(ho:cr!)(ha:av_)(bv:hg!:=by rfl)(fh:((kl!).all cd_&&(ce!).all ce_
   &&decide kl_)=true:=by rfl) (fm:dd_:=by rfl)
  (fg:attributeBase o "remove" X.env c5!=eval o X.env:=by rfl) (fq:fo_:=by rfl):ME X own (.Call (.Attribute o "remove" ag) [a] [] ab) (Vt fo fa):=
 eS (vW MQ PySem.F.slot_list_remove PySem.F.type_list_remove (b5i hu) ho.ok zn! fg fh fm bv fq) λZ G H Q ρ M R st e k=>
  ⟨G,ρ,M,_,st,e,λd M1 v G1 H1 r1 x1 m1 q1=>by
   obtain⟨c1,e1,r1⟩:=cP r1;obtain⟨rfl,rfl,_,zd,hH,_⟩:=mU m1 q1 e1;refine zo!;obtain⟨⟨p2,VF⟩,e2,n1,n2,hd,r2⟩:=cP r2;obtain⟨j,e3,r3⟩:=cP r2;obtain⟨z1,z2,z3,vs,B,Y⟩:=mU m2 b1_ e2;cases z2;refine⟨_,vs,u,z,VF,j,rfl,rfl,B,q2.mono x2.sub,Y.mono x2.sub,n1,n2,hd,e3,?_⟩;exact k _ _ _ _ _ r3 zo_ (m2.write z3 ⟨_,bV,a9e j Y⟩) Au.non⟩
end
end DL
namespace K11
open PySem L2 DL
nonrec def top(i:Nat):Stmt:=PySem.Challenge.pw_manyhands_k11_whole_alike.main.body.getD i qQ_
def Jh(i j:Nat):Stmt:=match top i with
 |.ClassDef _ _ _ b _ _ _ _ _ _ _=>b.getD j qQ_
 |s=>s
structure Ar where
 mk::
 A0:Addr
 A5:Addr
 A6:Addr
 A7:Addr
 A8:Addr
 A9:Addr
 B0:Addr
 B1:Addr
 B2:Addr
 B3:Addr
 B4:Addr
 B5:Addr
abbrev Pi:Stmt:=top 11
def a4x:Aj o! o! (Ae Pi):=g!
abbrev Pk:Stmt:=top 12
def a4z:Aj f5! f5! (Ae Pk):=g!
abbrev Lk:Stmt:=top 13
def vL:Aj o! o! (Ae Lk):=g!
abbrev Qj:Stmt:=top 14
def a8y:Aj o! o! (Ae Qj):=g!
abbrev Ks:Stmt:=top 15
def tZ:Aj o! o! (Ae Ks):=g!
abbrev Qk:Stmt:=top 16
def a8z:Aj o! o! (Ae Qk):=g!
abbrev My:Stmt:=top 17
def yC:Aj o! o! (Ae My):=g!
abbrev Nu:Stmt:=top 18
def a1i:Aj o! o! (Ae Nu):=g!
abbrev Qh:Stmt:=top 19
def a8w:Aj dH! dH! (Ae Qh):=g!
abbrev Ni:Stmt:=top 20
def a8v:Aj o! o! (Ae Ni):=g!
abbrev Pj:Stmt:=top 21
def a4y:Aj o! o! (Ae Pj):=g!
abbrev Kk:Stmt:=top 23
def a1j:Aj f5_ f5_ (Ae Kk):=g!
abbrev Ql:Stmt:=top 24
def a9a:Aj o! o! (Ae Ql):=g!
abbrev Kt:Stmt:=top 25
def uA:Aj o! o! (Ae Kt):=g!
abbrev Jx:Stmt:=top 26
def rJ:Aj bL! bL! (Ae Jx):=g!
abbrev Pl:Stmt:=top 27
def a5a:Aj a3_ a3_ (Ae Pl):=g!
abbrev Sa:Stmt:=Jh 29 0
def b4d:Aj aV! aV! (Ae Sa):=g!
abbrev Nw:Stmt:=Jh 29 1
def a1k:Aj L! L! (Ae Nw):=g!
abbrev Jj:Stmt:=Jh 29 2
def fY:Aj qU! lO! (Ae Jj):=g!
abbrev Ku:Stmt:=Jh 29 3
def iB:Aj qU_ L! (Ae Ku):=g!
abbrev Mz:Stmt:=Jh 29 4
def gS:Aj qV! aV! (Ae Mz):=g!
abbrev Na:Stmt:=Jh 30 0
def yD:Aj aV! aV! (Ae Na):=g!
abbrev Ln:Stmt:=Jh 30 1
def vM:Aj L! L! (Ae Ln):=g!
abbrev Ic:Stmt:=Jh 30 2
def nT:Aj L! L! (Ae Ic):=g!
abbrev Hn:Stmt:=Jh 30 3
def gX:Aj f7! f7! (Ae Hn):=g!
abbrev Lm:Stmt:=Jh 30 4
def lO:Aj qW! cU_ (Ae Lm):=g!
abbrev Ie:Stmt:=Jh 30 5
def nU:Aj f7_ f7_ (Ae Ie):=g!
abbrev Kv:Stmt:=Jh 30 6
def uB:Aj cU_ cU_ (Ae Kv):=g!
abbrev Jz:Stmt:=Jh 30 7
def dR:Aj qX! lO_ (Ae Jz):=g!
abbrev Lo:Stmt:=Jh 30 8
def iK:Aj qX_ lP! (Ae Lo):=g!
abbrev Gw:Stmt:=Jh 30 9
def lF:Aj f8! f8! (Ae Gw):=g!
abbrev Hm:Stmt:=Jh 30 10
def lP:Aj L! L! (Ae Hm):=g!
abbrev Gf:Stmt:=Jh 30 11
def kH:Aj L! L! (Ae Gf):=g!
abbrev Fc:Stmt:=Jh 30 12
def nS:Aj aV_ aV_ (Ae Fc):=g!
abbrev Fp:Stmt:=Jh 30 13
def oJ:Aj aV_ aV_ (Ae Fp):=g!
abbrev Gx:Stmt:=Jh 30 14
def lG:Aj aV_ aV_ (Ae Gx):=g!
abbrev Ix:Stmt:=top 32
def oI:Aj bL! bL! (Ae Ix):=g!
abbrev Mx:Stmt:=top 33
def jE:Aj q0_ a3_ (Ae Mx):=g!
abbrev Rv:Stmt:=top 34
def jR:Aj q1! a3_ (Ae Rv):=g!
abbrev Vx:Stmt:=top 35
def c2n:Aj f8_ f8_ (Ae Vx):=g!
abbrev Rw:Stmt:=top 36
def jS:Aj q2! a3_ (Ae Rw):=g!
abbrev Qs:Stmt:=Jh 39 0
def a9b:Aj f9_ f9_ (Ae Qs):=g!
abbrev Nz:Stmt:=Jh 39 1
def a1n:Aj ga! ga! (Ae Nz):=g!
abbrev Nv:Stmt:=top 40
def kG:Aj q3! bw_ (Ae Nv):=g!
abbrev Mw:Stmt:=top 41
def yB:Aj bw_ bw_ (Ae Mw):=g!
abbrev Nr:Stmt:=top 42
def a1g:Aj ax_ ax_ (Ae Nr):=g!
abbrev Qi:Stmt:=top 43
def a8x:Aj ax_ ax_ (Ae Qi):=g!
abbrev Nt:Stmt:=top 44
def a1h:Aj ga_ ga_ (Ae Nt):=g!
abbrev Jy:Stmt:=top 45
def dQ:Aj q5! bL_ (Ae Jy):=g!
abbrev Ll:Stmt:=top 46
def fX:Aj q6! lS_ (Ae Ll):=g!
abbrev Ha:Stmt:=top 47
def rL:Aj bL_ bL_ (Ae Ha):=g!
abbrev Rz:Stmt:=top 48
def b4c:Aj ax_ ax_ (Ae Rz):=g!
abbrev Es:Stmt:=top 49
def dZ:Aj q6_ bw_ (Ae Es):=g!
abbrev Qg:Stmt:=top 50
def vK:Aj q7! ax_ (Ae Qg):=g!
abbrev Vw:Stmt:=top 51
def uJ:Aj q7_ bL_ (Ae Vw):=g!
abbrev Kr:Stmt:=top 53
def lC:Aj q8! lT! (Ae Kr):=g!
abbrev Hl:Stmt:=top 54
def gW:Aj u2_ W_ (Ae Hl):=g!
abbrev Ge:Stmt:=top 55
def kE:Aj b5! b5! (Ae Ge):=g!
abbrev Tt:Stmt:=top 56
def b6r:Aj W_ W_ (Ae Tt):=g!
abbrev Rx:Stmt:=top 57
def b4a:Aj W_ W_ (Ae Rx):=g!
abbrev Pm:Stmt:=top 58
def a5b:Aj W_ W_ (Ae Pm):=g!
abbrev Vv:Stmt:=top 59
def c2m:Aj W_ W_ (Ae Vv):=g!
abbrev Ry:Stmt:=top 60
def b4b:Aj b5! b5! (Ae Ry):=g!
abbrev Tx:Stmt:=top 62
def b6u:Aj cV_ cV_ (Ae Tx):=g!
abbrev Vy:Stmt:=top 63
def a1l:Aj u9! cV_ (Ae Vy):=g!
abbrev Sc:Stmt:=top 64
def b4e:Aj [cX!] [cX!] (Ae Sc):=g!
abbrev Os:Stmt:=top 66
def b4f:Aj aH_ aH_ (Ae Os):=g!
abbrev Se:Stmt:=top 67
def mX:Aj ra_ aH_ (Ae Se):=g!
abbrev Qn:Stmt:=top 68
def a5c:Aj vd_ nt! (Ae Qn):=g!
abbrev Tv:Stmt:=top 69
def b6s:Aj gb! gb! (Ae Tv):=g!
abbrev Qr:Stmt:=top 70
def fJ:Aj rd! lW! (Ae Qr):=g!
abbrev Sb:Stmt:=top 71
def fU:Aj rd_ lW_ (Ae Sb):=g!
abbrev Pn:Stmt:=top 72
def gY:Aj re! aH_ (Ae Pn):=g!
abbrev Qm:Stmt:=top 73
def oK:Aj rf! aH_ (Ae Qm):=g!
abbrev Qp:Stmt:=top 74
def jT:Aj rg_ cY_ (Ae Qp):=g!
abbrev Qo:Stmt:=top 75
def vO:Aj ri! lX! (Ae Qo):=g!
abbrev Tw:Stmt:=top 76
def b6t:Aj cY_ cY_ (Ae Tw):=g!
abbrev Qq:Stmt:=top 77
def iL:Aj rj! lY_ (Ae Qq):=g!
abbrev Tu:Stmt:=top 78
def pM:Aj rj_ aH_ (Ae Tu):=g!
abbrev Kl:Stmt:=top 79
def a1m:Aj b5_ b5_ (Ae Kl):=g!
abbrev Iy:Stmt:=top 80
def vN:Aj b5_ b5_ (Ae Iy):=g!
abbrev Mi:Stmt:=top 81
def mY:Aj rk_ lZ_ (Ae Mi):=g!
abbrev Ny:Stmt:=top 82
def iF:Aj rl! l0! (Ae Ny):=g!
abbrev Sf:Stmt:=top 83
def eL:Aj rl_ l0_ (Ae Sf):=g!
abbrev Sr:Stmt:=top 84
def rK:Aj rm! [aW!] (Ae Sr):=g!
def Qu:Ad->Option Fl:= (Bk (Cq (Ee "int" l!) (Cq rm_ (f2 Jk (f1 Gb a4_) (f2 Gj (fC l1!) (fC l1_))))))
def Fu:List D->Option D:=Cg o! 1 (Qu)
def Qw:Ad->Option Fl:= (Bk (Cq (f1 Fu a4_) (Cd Ko Jk B_ l! u_)))
def Hf:List D->Option D:=Cg f5! 2 (Qw)
def Nb:Ad->Option Fl:= (Bk (Cq (f1 Fu a4_) (f2 Od l! v_)))
def Dz:List D->Option D:=Cg o! 1 (Nb)
def Ot:Ad->Option Fl:= (sSeq (Gg (Mn ip_ (fT (f2 Lx dI_ T!))) cZ_ Ct) (Bk (Cq (f1 Hf (Ac aI! (Ac gb_ Ag))) (f1 Dz (Ac dJ! Ag)))))
def Ec:List D->Option D:=Cg o! 1 (Ot)
def Lq:Ad->Option Fl:= (sSeq (Gg (Mn ip_ (fT (f2 Lx dI_ ab_))) cZ_ Ct) (Bk (Cq rs! (f1 Hf (Ac dJ_ (Ac gb_ Ag))))))
def Eb:List D->Option D:=Cg o! 1 (Lq)
def Mj:Ad->Option Fl:= (Bk (Et (f1 Ec a4_) (Et (f2 Aw l! gd!) (f2 Aw l! ir!))))
def He:List D->Option D:=Cg o! 1 (Mj)
def Km:Ad->Option Fl:= (Bk (Et ru! (f1 Ec a4_)))
def Ez:List D->Option D:=Cg o! 1 (Km)
def Ls:Ad->Option Fl:= (Bk (Et ru! (f1 Eb a4_)))
def Fz:List D->Option D:=Cg o! 1 (Ls)
def Si:Ad->Option Fl:= (Bk (Cq (Cd Ko Ko (fC (.str " ")) l! (fC (.str "~"))) (f2 Lx (f1 Za a4_) (fC (.int 37)))))
def Hb:List D->Option D:=Cg dH! 1 (Si)
def Sh:Ad->Option Fl:= (sSeq (Gg (Mn (Cu (fT (Ee "str" l!))) (Cu (fT (Cd Ko Ko v_ dI_ gb_)))) cZ_ Ct) (Bk (f1 Rk (Ac (Fa 1 [] (AR l!) J! a6! ir_) Ag))))
def Kg:List D->Option D:=Cg o! 1 (Sh)
def Qv:Ad->Option Fl:= (Bk (f1 Hf (Ac l! (Ac c3! Ag))))
def Dy:List D->Option D:=Cg o! 1 (Qv)
def Iq(t:Ar):List cm_:=[("put",.tup [dL_,.fn t.A5]),("move",.tup [dL_,dL_,.fn t.A5]),("drop",.tup [dL_]),("write",.tup [dL_,.fn t.A6,.fn t.A7]),("cut",.tup ry_),("set",.tup [dL_,.fn t.B0,.fn t.B1]),("undo",.tup [.fn t.B2]),("redo",.tup [.fn t.B2])]
def Li(t:Ar):Addr->Option xf!:=λa=>if a=t.A0 then some He else if a=t.A5 then some Ez else if a=t.A6 then some Fz else if a=t.A7 then some Kg else if a=t.A8 then some Eb else if a=t.A9 then some Dz else if a=t.B0 then some Dy else if a=t.B1 then some Fu else if a=t.B2 then some Ec else none
def Po(t:Ar):Ad->Option Fl:= (sSeq (Gg (fT (f2 Lx dI_ ge!)) cZ_ Ct) (Bk (f1 Rk (Ac (Fa 2 [] (AQ u_ l!) it! a6! it_) Ag))))
def Hu(t:Ar):List D->Option D:=Cg f5_ 2 (Po t)
def Ou(t:Ar):Ad->Option Fl:= (sSeq (Gg (Mn ip_ (fT (f2 Aw dI_ B_))) cZ_ Ct) (sSeq (Gg (Mn (Cu (fT (Ee "str" aI!))) (fT (Zb ge_ true aI!))) cZ_ Ct) (sSeq (Gg (Cu (fT (f1 (Hu t) (Ac (Eo l! (At v_) Ax) (Ac (Wg ge_ aI!) Ag))))) cZ_ Ct) (Bk (Et (f2 Lx aI! (fC dM_)) (f2 Ko (f2 Al (f2 Ai dJ_ T!) l9!) gb_))))))
def Ir(t:Ar):List D->Option D:=Cg o! 1 (Ou t)
def Lr(t:Ar):Ad->Option Fl:= (sSeq (Gg (Mn ip_ (fT (f2 Lx dI_ c3!))) cZ_ Ct) (Bk (Cq rs! (Cq (f1 Dz (Ac dJ_ Ag)) (f1 (Ir t) (Ac l9! Ag))))))
def Cc(t:Ar):List D->Option D:=Cg o! 1 (Lr t)
def Kw:Ad->Option Fl:= (Bk (Az (Ac dJ_ (Ac aI! Ag))))
def Dh:List D->Option D:=Cg bL! 1 (Kw)
def Qx:Ad->Option Fl:= (Bk (Vm Dh l!))
def Dq:List D->Option D:=Cg a3_ 1 (Qx)
def Ue(t:Ar):WS:= (Ah (Fh t.B5 "following" i_ rG_) (Fh t.B5 "preceding" i_ rG_))
def Hv(t:Ar):WF:=Cf aV! 1 (Ue t)
def Lv(t:Ar):WS:= (Ay (Jw (wl iw!) (w2 bz! v! c4!)))
def Hw(t:Ar):WF:=Cf L! 2 (Lv t)
def Kb(t:Ar):WS:= (Ah (An 3 (BC (wT (Ba t.B5 "holds" 2 (Hw t) i_ eN_)) D_ cw_)) (Ah (An 4 (w2 Br c4! ak!)) (Ah (Bw c4! ak! v!) (Ah (Bw ix! v! ak!) (Ah (Bw c4! v! aX!) (Bw ix! aX! v!))))))
def Cv(t:Ar):WF:=Cf qU! 3 (Kb t)
def Lu(t:Ar):WS:= (Ah (An 2 (Ym ix! v!)) (Ah (An 3 (Ym c4! v!)) (Ah (Bw c4! D_ ak!) (Bw ix! ak! D_))))
def Jf(t:Ar):WF:=Cf qU_ 2 (Lu t)
def Ob(t:Ar):WS:= (Ah iy! (Ah (An 2 (w2 Br c4! cw_)) (Ah (Iv rK_ rL_) cx_)))
def Il(t:Ar):WF:=Cf qV! 1 (Ob t)
def Sz(t:Ar):WS:= (Ah (Fh t.B4 "parents" i_ (Ph (El (wl gd!) cw_ (El iz! cw_ No)))) (Ah (Fh t.B4 "rows" i_ (Ph (El (wl gd!) iz_ (El iz! iz_ No)))) (Ah (Fh t.B4 "texts" i_ Gv) (Ah (Fh t.B4 "numbers" i_ Gv) (Ah (Fh t.B4 "written" i_ Gv) (Fh t.B4 "hidden" i_ Gv))))))
def Im(t:Ar):WF:=Cf aV! 1 (Sz t)
def Nc(t:Ar):WS:= (Ay (w2 bz! v! cy!))
def Cm(t:Ar):WF:=Cf L! 2 (Nc t)
def Iz(t:Ar):WS:= (Ay (w2 bz! v! eP_))
def Ch(t:Ar):WF:=Cf L! 2 (Iz t)
def Ih(t:Ar):WS:= (Ah (Iv gg! gg_) (Ay (wl iw!)))
def Ff(t:Ar):WF:=Cf f7! 3 (Ih t)
def Rr(t:Ar):WS:= (Ah rP_ (Ah rQ! (Ah rQ_ (Ah rR! (Ah rR_ rT!)))))
def Jr(t:Ar):WF:=Cf qW! 4 (Rr t)
def Ja(t:Ar):WS:= (Ay (Jw mg_ (Jw rP! (Wz (Ba t.B4 "is_within" 3 (Ff t) i_ gj!)))))
def Fv(t:Ar):WF:=Cf f7_ 3 (Ja t)
def Qy(t:Ar):WS:= (Ah (Aq (Lj (wT (Ba t.B4 "can_move" 3 (Fv t) i_ (Ab v! eN_)))) Qc Bq) (Ah (Bu (Ba t.B5 "take_out" 2 (Jf t) (w2 Br cy! iB!) az!)) (Ah (Bu (Ba t.B5 "put_behind" 3 (Cv t) (w2 Br cy! D_) gi!)) (Bw mf! v! D_))))
def Gn(t:Ar):WF:=Cf cU_ 4 (Qy t)
def Kx(t:Ar):WS:= (Ah (Aq (Lj (wT (Ba t.B4 "has_item" 2 (Ch t) i_ eN_))) Qc Bq) (Ah (An 5 ak!) (Dd (Jg (Tc H_)) (Wh 6 7) (Ah mh_ (Ah rY! (Ah rZ! (An 5 eQ_)))))))
def Ib(t:Ar):WF:=Cf qX! 5 (Kx t)
def Nd(t:Ar):WS:= (Ah (Aq (Lj (wT mg_)) Qc Bq) (Dd (Jg (Tb dO! r0_)) c5_ (Ah r1! r2!)))
def Js(t:Ar):WF:=Cf qX_ 4 (Nd t)
def Ho(t:Ar):WS:= (Aq (wT mg_) (Bw r3_ D_ ak!) Bq)
def Ev(t:Ar):WF:=Cf f8! 4 (Ho t)
def Ig(t:Ar):WS:= (Ay iB!)
def Fe(t:Ar):WF:=Cf L! 2 (Ig t)
def Gy(t:Ar):WS:= (Ay (Ba t.B5 "listed" 1 (Il t) (w2 Br cy! v!) Af))
def Er(t:Ar):WF:=Cf L! 2 (Gy t)
def Nj(t:Ar):WS:= (Ay (Ca 1 [0] (Cs (Ba t.B5 "listed" 1 (Il t) r1_ Af)) J! (wT (w2 iD_ i_ (Av t.B4 "hidden" v!))) i_))
def Dr(t:Ar):WF:=Cf aV_ 2 (Nj t)
def Oc(t:Ar):WS:= (Ay (Qe "" (Ca 1 [0] r4_ J! gm_ (w2 Br (Av t.B4 "written" v!) i_))))
def Gm(t:Ar):WF:=Cf aV_ 2 (Oc t)
def Hq(t:Ar):WS:= (Ay (w1 We (Ab r3_ Af)))
def Ew(t:Ar):WF:=Cf aV_ 2 (Hq t)
def Oa:Ad->Option Fl:= (Bk (Et (f2 Aw iE! kC!) (f2 Aw iE! (fC mn!))))
def Bb:List D->Option D:=Cg bL! 1 (Oa)
def Sy:WS:= (Ah (An 1 Gv) (Ah (Dd (Jg (Ey iF!)) bO! r7_) cx_))
def Gk:WF:=Cf q0_ 1 (Sy)
def Xh:WS:= (Ah (An 1 (Am 1 Gk bi!)) (Ah pi! (Ah (Dd (Jg eR_) J_ iH_) eS_)))
def Ma:WF:=Cf q1! 1 (Xh)
def Xj(t:Ar):WS:= (Aq sc_ (Bu (Ba t.B4 "put" 4 (Jr t) i_ (Ab v! (Ab b9_ (Ab gp! Af))))) (Aq sd! (Bu (Ba t.B4 "move" 4 (Gn t) i_ gp_)) (Aq se! (Bu (Ba t.B4 "move" 4 (Gn t) i_ se_)) (Aq sf_ (Bu (Ba t.B4 "write" 5 (Ib t) i_ (Ab v! gp_))) (Aq sg! (Bu (Ba t.B4 "cut" 4 (Js t) i_ gp_)) (Aq si! (Bu (Ba t.B4 "set_number" 4 (Ev t) i_ gp_)) Bq))))))
def Nl(t:Ar):WF:=Cf f8_ 3 (Xj t)
def Xi(t:Ar):WS:= (Ah sk_ (Ah (An 2 (Am 1 Ma bi!)) (Ah (Dd (Jg (Ey iF!)) J_ (Ah go_ sm_)) cx_)))
def Kf(t:Ar):WF:=Cf q2! 1 (Xi t)
def Wp(t:Ar):WS:= (Ah (Fh t.B3 "ours" i_ v!) (Ah (Fh t.B3 "taken" i_ Gv) (Ah (Fh t.B3 "waiting" i_ (Qd Af)) so!)))
def Iu(t:Ar):WF:=Cf f9_ 2 (Wp t)
def Uk(t:Ar):WS:= (Ay (w1 Uq (Ab (Iw dQ_ v! mw!) Af)))
def Do(t:Ar):WF:=Cf ga! 2 (Uk t)
def Ud(t:Ar):WS:= (Ah iy! (Ah (Dd (Pf dQ_) bO! (Xb 1 mw_)) sq!))
def Ga(t:Ar):WF:=Cf q3! 1 (Ud t)
def Sx(t:Ar):WS:= (Ah ss_ (Ay mx_))
def Dk(t:Ar):WF:=Cf bw_ 1 (Sx t)
def Ub(t:Ar):WS:= (Ay (w2 (λ_=>Ko) (wl mz!) st_))
def Fy(t:Ar):WF:=Cf ax_ 2 (Ub t)
def Wm(t:Ar):WS:= (Ay (w2 iG_ (wl mz!) (w2 Pa st_ gs!)))
def Hc(t:Ar):WF:=Cf ax_ 2 (Wm t)
def Uc(t:Ar):WS:= (Ah sv! sw!)
def Ht(t:Ar):WF:=Cf ga_ 2 (Uc t)
def Ps(t:Ar):WS:= (Ah pi! (Ah (Dd (Cs (w2 Pa dR_ v!)) J_ (Ah go_ (Ah sA_ sB_))) eS_))
def En(t:Ar):WF:=Cf q5! 2 (Ps t)
def Rq(t:Ar):WS:= (Ah pi! (Dd (Cs (w1 Ss az!)) J_ (Ah sE_ (Ah sH! sG_))))
def Jq(t:Ar):WF:=Cf q6! 2 (Rq t)
def Pt(t:Ar):WS:= (Ah (Aq (Da (Cu sJ!)) Gz Bq) (Bu (Am 2 (Jq t) (Ab i_ (Ab (Am 2 (En t) c8!) Af)))))
def Fk(t:Ar):WF:=Cf bL_ 2 (Pt t)
def Xn(t:Ar):WS:= (Ah (Bu (Ts (Hi dQ_ (wl mA_) (Qd Af)) v!)) so!)
def Kh(t:Ar):WF:=Cf ax_ 2 (Xn t)
def Ov(t:Ar):WS:= (Ah (An 1 aI_) (Ah sL! (Ah (Iv (Da (fT sO!)) (Ah sN! (Ah sO_ (Ah (Np 1 gs!) sL!)))) cx_)))
def Ed(t:Ar):WF:=Cf q6_ 1 (Ov t)
def Sg(t:Ar):WS:= (Ah sQ! (Ah (An 2 sQ_) (Ah sU_ (Ay aI_))))
def Ke(t:Ar):WF:=Cf q7! 2 (Sg t)
def AN(t:Ar):WS:= (Ah sW! (Ah (An 2 aI_) (Ah (Dd (Jg dS_) J_ (Np 2 sX!)) eS_)))
def Tf(t:Ar):WF:=Cf q7_ 2 (AN t)
def Qt(t:Ar):WS:= (Ah (An 2 mJ_) (Ah (Aq (Lj (wT (Ba t.B4 "has" 2 gh_ D_ az!))) Gz Bq) eS_))
def Jd(t:Ar):WF:=Cf q8! 2 (Qt t)
def Mp(t:Ar):WS:= (Ah (An 2 mJ_) (Ah (Aq (Lj (wT (Ba t.B4 "has_item" 2 (Ch t) D_ az!))) Gz Bq) eS_))
def Cp(t:Ar):WF:=Cf u2_ 2 (Mp t)
def Ld(t:Ar):WS:= (Ah s1! (Ay iR_))
def Ep(t:Ar):WF:=Cf b5! 3 (Ld t)
def Yu(t:Ar):WS:= (Ay s2!)
def Jl(t:Ar):WF:=Cf W_ 2 (Yu t)
def Xk(t:Ar):WS:= (Ay (Ba t.B4 "parent_of" 2 (Fe t) iR_ az!))
def Oe(t:Ar):WF:=Cf W_ 2 (Xk t)
def Vh(t:Ar):WS:= (Ay (Ba t.B4 "children_of" 2 (Er t) (Am 2 (Jd t) c8!) az!))
def Je(t:Ar):WF:=Cf W_ 2 (Vh t)
def AM(t:Ar):WS:= (Ay (Ba t.B4 "text_of" 2 (Gm t) iR_ az!))
def Te(t:Ar):WF:=Cf W_ 2 (AM t)
def Xl(t:Ar):WS:= (Ay (w2 Br (Ba t.B4 "numbers_of" 2 (Ew t) (Am 3 (Ep t) (Ab i_ (Ab v! eN_))) az!) D_))
def Mb(t:Ar):WF:=Cf b5! 3 (Xl t)
def Ta:Ad->Option Fl:= (sSeq (Gg (λρ=>((l!) ρ).bind Wl) s3_ Ct) (Bk B_))
def Oi:List D->Option D:=Cg cV_ 2 (Ta)
def Xp:Ad->Option Fl:= (sSeq (Cn 2 (f2 Bn (f2 Al (f1 Oi (Ac l! c3_)) (f2 Eh (fC (.int 104729)) s4!)) (fC (.int 4294967291)))) (sSeq (Cn 2 (f2 Bn (f2 Eh x! (fC (.int 48271))) (fC (.int 4294967279)))) (Bk (f2 Bn (f2 Al (f2 Eh (f2 Ci x! (fC (.int 64))) (fC (.int 69621))) x!) (fC (.int 4294967231))))))
def Bi:List D->Option D:=Cg u9! 2 (Xp)
def Xo:Ad->Option Fl:= (Bk (Cq (Ee "int" l!) rm_))
def Of:List D->Option D:=Cg [cX!] 1 (Xo)
def Ui:Ad->Option Fl:= (Bk (f2 Al (f2 Al (fC (.lst [gc_])) (Fa 1 [] eR_ J! (fT mM_) (Az gv!))) (fC (.lst [iq_,s7_]))))
def Md:List D->Option D:=Cg aH_ 1 (Ui)
def Uf:Ad->Option Fl:= (sSeq (Lp 1 (Ac cm! (Ac (fC (.tup [iU_,iU_,bg!])) Ag))) (sSeq (Rp eR_ bO! (Gg s8! s9_ Ct)) (Bk u_)))
def Mc:List D->Option D:=Cg ra_ 1 (Uf)
def Wa:Ad->Option Fl:= (sSeq (Cn 2 (fC (.str " abcXYZ.,;!019~[]\\\"'|{}<>@#$&*()-+/=_^:?`"))) (Bk (Xw (fC iV_) (Fa 1 [0,2] (Em mO!) J! a6! tc!))))
def Og:List D->Option D:=Cg vd_ 2 (Wa)
def Wc:Ad->Option Fl:= s3_
def Dv:List D->Option D:=Cg gb! 2 (Wc)
def Qa:Ad->Option Fl:= (sSeq tc_ (sSeq td_ (sSeq te! (sSeq tg! (sSeq th! (sSeq th_ (sSeq tj_ (sSeq tl! (sSeq tl_ (sSeq tm_ (sSeq tn! (sSeq tp_ (sSeq tr! (sSeq ts! (sSeq tu_ tv_)))))))))))))))
def Kq:List D->Option D:=Cg rd! 4 (Qa)
def Qz:Ad->Option Fl:= (sSeq mT! (sSeq (Lp 4 iZ_) (sSeq (Lp 5 iZ_) (sSeq (Rp (Em x!) gA! (sSeq tx! (sSeq tx_ (sSeq ty! (sSeq tz_ (sSeq tA! tB_)))))) (Bk O_)))))
def Ki:List D->Option D:=Cg rd_ 3 (Qz)
def Vi:WS:= (Ah iy! (Ah (Dd (Jg eR_) bO! (Ah tE! (Ah (Iv (Da (Co tF! tG!)) mZ!) tH_))) cx_))
def Fw:WF:=Cf re! 1 (Vi)
def Wo:WS:= (Ah (An 1 Gv) (Ah (Dd mZ_ bO! (Aq tJ! tK! Bq)) cx_))
def Ml:WF:=Cf rf! 1 (Wo)
def Yx:WS:= (Ah (An 4 (Ca 1 [1] m0! J! (Da (fT tL_)) i_)) (Ah (An 5 aI_) (Ah (Iv (Da (Co tM! tN_)) tO_) (Ah (Dd (Jg (Em gD_)) gA! (Aq tS! tT! Bq)) (Bw i_ gC_ (wl (f2 Al tV! tV_)))))))
def Go:WF:=Cf rg_ 4 (Yx)
def Yw:WS:= (Ah (Iv (Da iA!) (Ah tW! (Ah tX! (An 1 gs_)))) (Ay iD!))
def Mm:WF:=Cf ri! 3 (Yw)
def Yv:WS:= (Aq (Fo (wT (w2 bz! v! bj_)) (Wk (wT (w2 bz! D_ bj_)) (wT (w2 bz! D_ tZ!)))) (Aq t0_ t1_ Bq) Bq)
def Jm:WF:=Cf cY_ 4 (Yv)
def Xq:WS:= (Ah m3_ (Ah m4! (Aq sc_ (Ah t2_ (Ah m4_ (Ah m6_ m8!))) (Aq sd! m8_ (Aq se! m9_ (Aq (Fo si! (wT gG!)) t5! (Aq (Fo sf_ (wT gG!)) (Ah i9! (Ah na! (Ah (Dd nb! (Bx 7) t7!) (Ah ua! uc!)))) (Aq (Fo sg! (wT gG!)) (Ah ud_ (Ah i9! ue_)) Bq))))))))
def Wf:WF:=Cf rj! 2 (Xq)
def Wb:WS:= (Ah ug! (Ah uh! (Ah (Dd mZ_ J_ (Aq (Fo uh_ uk!) ul! Bq)) cx_)))
def Oh:WF:=Cf rj_ 1 (Wb)
def Uj:WS:= (Ay (Ca 1 [1] m0! J! (Da (fT um!)) (wl aI!)))
def Hy:WF:=Cf b5_ 2 (Uj)
def Rs:WS:= (Ay (Qe "" (Ca 1 [] un! J! (Da (fT dJ_)) (wl dJ!))))
def Hj:WF:=Cf b5_ 2 (Rs)
def Uh(t:Ar):WS:= (Ah nf! (Ah (Dd un_ J_ (Aq uo_ db_ Bq)) (Ah (Dd (Pf nf_) J_ (Ah up_ (Ah uq_ us_))) ut!)))
def Kj(t:Ar):WF:=Cf rk_ 2 (Uh t)
def Ug:WS:= (Ah (Tp mT!) (Ah (Dd (Jg (Em iO_)) c5_ (Ah uw! ux_)) (Ay ak!)))
def Hx:WF:=Cf rl! 3 (Ug)
def Xr(t:Ar):WS:= (Ah (An 4 aI_) (Ah (An 5 (Am 3 Hx (Ab i_ gi!))) (Ah na! (Ah (Iv (Da (fT uy_)) (Ah uB! (Ah uC! (Ah nl_ (Ah uH_ (Ah uJ! (Ah uK! uK_))))))) (Ay aX!)))))
def Fi(t:Ar):WF:=Cf rl_ 4 (Xr t)
def Xm(t:Ar):WS:= (Ah uO! (Ah uO_ (Ah uP! (Ah uR_ (Ah (Dd (Jg (Em ab_)) c5_ (Ah uU_ uW_)) uX_)))))
def Zv(t:Ar):WF:=Cf rm! 1 (Xm t)
structure Txt(P:x4!)(w:x5!)(K:xB!)(mg:y_)(t:Ar):Prop where
 C8:Fg K mg "is_whole" Pi o!
 C9:Fg K mg "is_below" Pk f5!
 D1:Fg K mg "is_from_one" Lk o!
 D2:Fg K mg "is_name" Qj o!
 D3:Fg K mg "is_sign_name" Ks o!
 D4:Fg K mg "is_item" Qk o!
 D5:Fg K mg "is_sibling" My o!
 D6:Fg K mg "is_behind" Nu o!
 D7:Fg K mg "is_sign" Qh dH!
 D8:Fg K mg "is_text" Ni o!
 D9:Fg K mg "is_place" Pj o!
 E1:Fg K mg "are_parts" Kk f5_
 E2:Fg K mg "is_deed" Ql o!
 E3:Fg K mg "is_operation" Kt o!
 E4:Fg K mg "time_and_hand" Jx bL!
 E5:Fg K mg "in_order" Pl a3_
 E6:Va K mg "Row" t.B5 "Row.__init__" Sa aV!
 E7:Db K t.B5 "holds" "Row.holds" Nw L!
 E8:Db K t.B5 "put_behind" "Row.put_behind" Jj lO!
 E9:Db K t.B5 "take_out" "Row.take_out" Ku L!
 F7:Db K t.B5 "listed" "Row.listed" Mz aV!
 F8:Va K mg "Outline" t.B4 "Outline.__init__" Na aV!
 F9:Db K t.B4 "has" "Outline.has" Ln L!
 G6:Db K t.B4 "has_item" "Outline.has_item" Ic L!
 G7:Db K t.B4 "is_within" "Outline.is_within" Hn f7!
 G8:Db K t.B4 "put" "Outline.put" Lm cU_
 G9:Db K t.B4 "can_move" "Outline.can_move" Ie f7_
 H9:Db K t.B4 "move" "Outline.move" Kv cU_
 J0:Db K t.B4 "write" "Outline.write" Jz lO_
 J1:Db K t.B4 "cut" "Outline.cut" Lo lP!
 J2:Db K t.B4 "set_number" "Outline.set_number" Gw f8!
 J3:Db K t.B4 "parent_of" "Outline.parent_of" Hm L!
 J4:Db K t.B4 "children_of" "Outline.children_of" Gf L!
 J5:Db K t.B4 "signs_of" "Outline.signs_of" Fc aV_
 J6:Db K t.B4 "text_of" "Outline.text_of" Fp aV_
 J7:Db K t.B4 "numbers_of" "Outline.numbers_of" Gx aV_
 J8:Fg K mg "is_undo_or_redo" Ix bL!
 J9:Fg K mg "last_words" Mx a3_
 K0:Fg K mg "undone" Rv a3_
 K4:Fg K mg "play" Vx f8_
 K6:Fg K mg "played" Rw a3_
 K7:Va K mg "Hand" t.B3 "Hand.__init__" Qs f9_
 K8:Db K t.B3 "have" "Hand.have" Nz ga!
 K9:Fg K mg "all_taken" Nv bw_
 L0:Fg K mg "outline_of" Mw bw_
 L5:Fg K mg "was_taken" Nr ax_
 L6:Fg K mg "is_next" Qi ax_
 L7:Fg K mg "last_time" Nt ga_
 L8:Fg K mg "not_yet_taken" Jy bL_
 L9:Fg K mg "check_times" Ll lS_
 M6:Fg K mg "check_message" Ha bL_
 M7:Fg K mg "accept" Rz ax_
 M9:Fg K mg "accept_waiting" Es bw_
 N0:Fg K mg "receive" Qg ax_
 N3:Fg K mg "take" Vw bL_
 N4:Fg K mg "outline_with" Kr lT!
 N5:Fg K mg "outline_with_item" Hl W_
 N6:Fg K mg "outline_with_number" Ge b5!
 N7:Fg K mg "there" Tt W_
 N8:Fg K mg "parent" Rx W_
 N9:Fg K mg "children" Pm W_
 O0:Fg K mg "text" Vv W_
 O3:Fg K mg "number" Ry b5!
 O4:Fg K mg "_law_cell" Tx cV_
 O5:Fg K mg "_law_mix" Vy cV_
 O6:Fg K mg "_law_whole" Sc [cX!]
 O7:Fg K mg "_law_items" Os aH_
 O8:Fg K mg "_law_signs" Se aH_
 O9:Fg K mg "_law_text" Qn nt!
 P0:Fg K mg "_law_pick" Tv gb!
 P1:Fg K mg "_law_deed" Qr lW!
 P3:Fg K mg "_law_world" Sb lW_
 P4:Fg K mg "_law_ordered" Pn aH_
 P5:Fg K mg "_law_undone" Qm aH_
 P6:Fg K mg "_law_hang" Qp cY_
 P7:Fg K mg "_law_lies" Qo lX!
 P8:Fg K mg "_law_move" Tw cY_
 P9:Fg K mg "_law_do" Qq lY_
 Q0:Fg K mg "_law_play" Tu aH_
 Q3:Fg K mg "_law_children" Kl b5_
 Q4:Fg K mg "_law_shown_text" Iy b5_
 Q5:Fg K mg "_law_shows" Mi lZ_
 Q6:Fg K mg "_law_shuffled" Ny l0!
 Q7:Fg K mg "_law_bring" Sf l0_
 Q8:Fg K mg "law" Sr [aW!]
 Q9:mg "abs"=none
 R0:mg "all"=none
 R4:mg "bool"=none
 R6:mg "enumerate"=none
 R7:mg "int"=none
 R8:mg "isinstance"=none
 R9:mg "len"=none
 S0:mg "list"=none
 S7:mg "min"=none
 S8:mg "ord"=none
 S9:mg "range"=none
 T0:mg "sorted"=none
 T1:mg "str"=none
 T2:mg "tuple"=none
 T3:mg "zip"=none
 T4:∃tk,mg "HANDS"=some (.int 16 tk)
 T5:∃tk,mg "SIGNS"=some (.int 16 tk)
 T6:∃tk,mg "PLACES"=some (.int 4 tk)
 T7:∃tk,mg "LEFT_OUT"=some (.int 37 tk)
 T8:∃tk,mg "MOST_WAITING"=some (.int 8 tk)
 T9:mg "is_item"=some (.ref t.A0)
 U0:mg "is_sibling"=some (.ref t.A5)
 U1:mg "is_behind"=some (.ref t.A6)
 U2:mg "is_text"=some (.ref t.A7)
 U3:mg "is_sign_name"=some (.ref t.A8)
 U4:mg "is_from_one"=some (.ref t.A9)
 U5:mg "is_place"=some (.ref t.B0)
 U6:mg "is_whole"=some (.ref t.B1)
 U7:mg "is_name"=some (.ref t.B2)
 U8:Vb K t.B3
 U9:Vb K t.B4
 V0:Vb K t.B5
 V1:Eg K t.B5 "following"
 V2:Eg K t.B5 "preceding"
 V3:Eg K t.B4 "parents"
 V4:Eg K t.B4 "rows"
 V5:Eg K t.B4 "texts"
 V6:Eg K t.B4 "numbers"
 V7:Eg K t.B4 "written"
 V8:Eg K t.B4 "hidden"
 V9:Eg K t.B3 "ours"
 W3:Eg K t.B3 "taken"
 W4:Eg K t.B3 "waiting"
 W5:Eg K t.B3 "outline"
 W6:∀X:Cx,X.prog=P->X.w=w->X.K=K->X.mg=mg->Uz X "PARTS" ge_
def dL:∀(l:h_) (d v:D),kget e6_ d=some v
 |[],d,v=>by simp[As,kget]
 |(k,x)::r,d,v=>by
  unfold As;by_cases h:k=d
  .rw[IA h];simp[kget,h]
  .rw[HR h];simp[kget,h,dL r d v]
def dU(h:d≠e):∀(l:h_) (v:D),kget e6_ e=kget l e
 |[],v=>by simp[As,kget,h]
 |(k,x)::r,v=>by
  unfold As;show"!e"
  .rw[aY!];subst hk;simp[kget,h]
  .rw[aJ!];simp only[kget];rw[dU h r v]
def xA(h:d≠e):∀(l:h_),kget gN_ e=kget l e
 |[]=>rfl
 |(k,x)::r=>by
  unfold Gq;show"!e"
  .rw[aY!];subst hk;simp[kget,h]
  .rw[aJ!];simp only[kget];rw[xA h r]
def a3j:∀{l:h_} {d:D},kget l d≠none↔d∈l.map b_
 |[],d=>by simp[kget]
 |(k,x)::r,d=>by
  unfold kget;show"!e"
  .subst hk;simp
  .rw[aJ!,a3j];simp[HY hk]
def wZ:∀{l:h_} {d:D},(et!).Nodup->kget gN_ d=none
 |[],d,_=>rfl
 |(k,x)::r,d,h=>by
  rw[HZ,IN]at h;unfold Gq;show"!e"
  .rw[aY!];subst hk;cases e:kget r k with
   |none=>rfl
   |some v=>exact absurd (a3j.mp pk_) h.1
  .rw[aJ!];unfold kget;rw[aJ!];exact wZ h.2
def a2q:∀{l:h_} {d v:D} {e:D},e∈(e6_).map b_↔e=d\/e∈l.map b_
 |[],d,v,e=>by simp[As]
 |(k,x)::r,d,v,e=>by
  unfold As;show"!e"
  .rw[aY!];subst hk;simp
  .rw[aJ!];simp only[HZ,HQ];rw[a2q];constructor<;>(rintro(h|h|h)<;>simp[h])
def kR:∀{l:h_} {d v:D},(et!).Nodup->((e6_).map b_).Nodup
 |[],d,v,_=>by simp[As]
 |(k,x)::r,d,v,h=>by
  rw[HZ,IN]at h;unfold As;show"!e"
  .rw[aY!];simp only[HZ,IN];exact h
  .rw[aJ!];simp only[HZ,IN];refine⟨cL!,kR h.2⟩;obtain z|z:=a2q.mp z
   .exact hk z
   .exact h.1 z
def b9w:∀{l:h_} {d e:D},e∈(gN_).map b_->e∈l.map b_
 |[],d,e,h=>by simp[Gq]at h
 |(k,x)::r,d,e,h=>by
  unfold Gq at h;show"!e"
  .rw[aY!]at h;simp only[HZ,HQ];exact .inr h
  .rw[aJ!]at h;simp only[HZ,HQ]at h ⊢;obtain h|h:=h
   .exact .inl h
   .exact .inr (b9w h)
def b9x:∀{l:h_} {d:D},(et!).Nodup->((gN_).map b_).Nodup
 |[],d,_=>by simp[Gq]
 |(k,x)::r,d,h=>by
  rw[HZ,IN]at h;unfold Gq;show"!e"
  .rw[aY!];exact h.2
  .rw[aJ!];simp only[HZ,IN];exact⟨λz=>h.1 (b9w z),b9x h.2⟩
def wR:∀{l:h_} {d v:D},kget l d≠none->(e6_).length=al_
 |[],d,v,h=>by simp[kget]at h
 |(k,x)::r,d,v,h=>by
  unfold As;show"!e"
  .rw[aY!];rfl
  .rw[aJ!];unfold kget at h;rw[aJ!]at h;simp[wR h]
def xE:∀{l:h_} {d:D},kget l d≠none->(gN_).length+1=al_
 |[],d,h=>by simp[kget]at h
 |(k,x)::r,d,h=>by
  unfold Gq;show"!e"
  .rw[aY!];rfl
  .rw[aJ!];unfold kget at h;rw[aJ!]at h;simp[xE h]
def Kc{α:Type}:List α->List (α×α)
 |a::b::r=>aa_::Kc (b::r)
 |_=>[]
def fB{α:Type}:∀(u:N_) (a b:α) (v:N_),Kc (u++a::b::v)=Kc (u++[a])++aa_::Kc (b::v)
 |[],a,b,v=>rfl
 |[x],a,b,v=>rfl
 |x::y::u,a,b,v=>by
  have:=fB (y::u) a b v;simp only[MX]at this ⊢;simp only[Kc,MX];rw[this]
def b2a{α:Type}:∀(a:α) (l:N_),(Kc (a::l)).map b_=(a::l).dropLast
 |a,[]=>rfl
 |a,b::r=>by simp only[Kc,HZ,b2a b r,List.dropLast]
def b1z{α:Type}:∀(a:α) (l:N_),(Kc (a::l)).map C_=l
 |a,[]=>rfl
 |a,b::r=>by simp only[Kc,HZ,b1z b r]
def Jv(xs:b!):List D:=.non::(xs++[.non])
def a4c(xs:b!):(e7_).map b_=.non::xs:=by unfold Jv;rw[b2a,show(D.non::(xs++[.non]))=(.non::xs)++[.non]from rfl,List.dropLast_concat]
def qX(xs:b!):(e7_).map C_=xs++[.non]:=b1z _ _
structure Px(kf kp:h_)(xs:b!):Prop where
 f:∀a b,kget kf a=some b↔aa_∈Kc aP!
 p:∀a b,kget kp b=some a↔aa_∈Kc aP!
 nd:xs.Nodup
 no:D.non∉xs
 kf_nd:(kf.map b_).Nodup
 kp_nd:(kp.map b_).Nodup
 fl:kf.length=k_+1
 pl:kp.length=k_+1
def jY{α β:Type}:∀{l:List (α×β)} {a:α} {b c:β},(et!).Nodup->aa_∈l->(a,c)∈l->b=c
 |[],_,_,_,_,h,_=>by cases h
 |(x,y)::r,a,b,c,nd,B,Y=>by
  rw[HZ,IN]at nd;obtain z|z:=HQ.mp B<;>obtain w|w:=HQ.mp Y
  .cases z;cases w;rfl
  .cases z;exact absurd u1_ nd.1
  .cases w;exact absurd u2! nd.1
  .exact jY nd.2 z w
def Px.hasF(h:jl!)(a:D):kget kf a≠none↔a=.non\/a∈xs:=by
 have e:=a4c xs;show"!H"
 .intro z;cases q:kget kf a with
  |none=>exact absurd q z
  |some b=>
   have:=IE (f:=b_) ((h.f a b).mp q);rw[e]at this;simpa using this
 .intro z;have:a∈(e7_).map b_:=by rw[e];simpa using z
  obtain⟨⟨x,b⟩,hm,rfl⟩:=IP.mp this;rw[(h.f x b).mpr hm];simp
def Px.hasP(h:jl!)(b:D):kget kp b≠none↔b=.non\/b∈xs:=by
 have e:=qX xs;show"!H"
 .intro z;cases q:kget kp b with
  |none=>exact absurd q z
  |some a=>
   have:=IE (f:=C_) ((h.p a b).mp q);rw[e]at this;obtain w|w:=HU.mp this
   .exact .inr w
   .exact .inl (by simpa using w)
 .intro z;have:b∈(e7_).map C_:=by rw[e];obtain rfl|z:=z<;>simp[*]
  obtain⟨⟨a,y⟩,hm,rfl⟩:=IP.mp this;rw[(h.p a y).mpr hm];simp
def b6z:Px jl_ jl_ []:=by
 refine⟨e8!,e8!,G_,G_,G_,G_,rfl,rfl⟩<;>
 .simp only[Jv,Kc,kget,KZ,HQ,JI,LB,LH];show"!H"
  .intro z;split at z
   .rename_i q;cases z;exact⟨by first|exact q.symm|rfl,by first|rfl|exact q.symm⟩
   .cases z
  .rintro⟨rfl,rfl⟩;simp
def Xu(n a:D):List D->List D
 |[]=>[]
 |x::r=>open Classical in if x=a then x::n::r else x::Xu n a r
def Pv(n a:D)(xs:b!):List D:=open Classical in if a∈xs then Xu n a xs else n::xs
def kX:∀{u v:b!},a∉u->Xu n a (u++a::v)=u++a::n::v
 |[],v,_=>by simp[Xu]
 |x::u,v,h=>by
  rw[HQ,OX]at h;simp only[MX,Xu];rw[kZ!,kX h.2]
def Px.ins(h:jl!)(e:Jv xs=u++a0::b0::v)(e':Jv gh=u++a0::n::b0::v)(hn:n∉xs)(h0:n≠.non):
  Px (As e8_ n b0) (As e9! b0 n) gh:=by
 have P:=fB u a0 b0 v;have P':Kc (Jv gh)=Kc jm_++(a0,n)::(n,b0)::Kc jn!:=by rw[e',fB];rfl
 rw[<-e]at P;have F:=a4c xs;have S:=qX xs;have zn:(D.non::xs).Nodup:=IN.mpr u5!;have wu:(xs++bR!).Nodup:=by
  rw[JB];exact u6!
 have nf:∀a b,aa_∈Kc aP!->a≠n:=λa b hm z=>by
  have:=IE (f:=b_) hm;rw[F]at this;obtain w|w:=HQ.mp this
  .exact h0 jo!
  .exact hn jo!
 have ns:∀a b,aa_∈Kc aP!->b≠n:=λa b hm z=>by
  have:=IE (f:=C_) hm;rw[S]at this;obtain w|w:=HU.mp this
  .exact hn jo!
  .simp at w;exact h0 jo!
 have m0:(a0,b0)∈Kc aP!:=by rw[P];simp
 have wv:a0≠n:=nf _ _ m0;have qj:b0≠n:=ns _ _ m0;have dF:∀a b,aa_∈Kc jm_\/aa_∈Kc jn!->aa_∈Kc aP!/\a≠a0/\b≠b0:=λa b hm=>by
  have q:aa_∈Kc aP!:=by rw[P];obtain z|z:=hm<;>simp[z]
  have gj:=F▸zn;have bd:=S▸wu;rw[P]at gj bd;simp only[IW,HZ]at gj bd;rw[JB,IN]at gj bd;refine⟨q,cL!,cL!⟩
  .obtain w|w:=hm
   .exact gj.2.2 _ u1_ _ d_ z
   .exact gj.2.1.1 (z▸IE (f:=b_) w)
  .obtain w|w:=hm
   .exact bd.2.2 _ (IE (f:=C_) w) _ d_ z
   .have:=IE (f:=C_) w;rw[show(aa_).2=b0 from z]at this;exact bd.2.1.1 this
 have len:gh.length=k_+1:=by
  show"!N"
 have mem':∀y,y∈Jv gh↔y=n\/y∈Jv xs:=λy=>by rw[e,e'];simp only[HU,HQ];constructor<;>(intro z;obtain z|z|z|z|z:=z<;>simp[z])
 have tl:gh++bR!=np_:=rfl;have gb:(np_).Nodup:=by
  rw[<-qX gh,P'];have bd:=S▸wu;rw[P]at bd;simp only[IW,HZ]at bd ⊢;rw[JB,IN]at bd;rw[JB,IN,IN];refine⟨bd.1,⟨cL!,bd.2.1.1,bd.2.1.2⟩,u7!⟩
  .obtain z|z:=HQ.mp z
   .exact qj z.symm
   .obtain⟨⟨c,d⟩,hm,rfl⟩:=IP.mp z;exact ns c d u7_ rfl
  .obtain rfl|hb:=HQ.mp hb
   .obtain⟨⟨c,d⟩,hm,rfl⟩:=IP.mp ha;exact ns c d u7_
   .exact u8!
 rw[JB]at gb;refine⟨e8!,e8!,gb.1,u8_,kR (kR h.kf_nd),kR (kR h.kp_nd),?_,?_⟩
 .rw[P'];show"!P";by_cases q1:n=a
  .show"#%"
   .show"!d";simp
   .rintro(z|⟨z,_⟩|⟨_,z⟩|z)
    .exact absurd rfl (nf _ _ (df!).1)
    .exact absurd z.symm wv
    .rw[z]
    .exact absurd rfl (nf _ _ (df_).1)
  .rw[dU q1];by_cases q2:a0=a
   .subst q2;rw[dL];show"!H"
    .show"!d";simp
    .rintro(z|⟨_,z⟩|⟨z,_⟩|z)
     .exact absurd rfl (df!).2.1
     .rw[z]
     .exact cf!
     .exact absurd rfl (df_).2.1
   .rw[dU q2,h.f,P];show"!P";show"!H"
    .show"#@"
     .exact cB!
     .exact gP_
     .exact jp!
    .rintro(z|⟨z,_⟩|⟨z,_⟩|z)
     .exact cB!
     .exact gP_
     .exact cf!
     .exact jp_
 .rw[P'];show"!P";by_cases q1:b0=b
  .show"#%"
   .show"!d";simp
   .rintro(z|⟨_,z⟩|⟨z,_⟩|z)
    .exact absurd rfl (df!).2.2
    .exact absurd z qj
    .rw[z]
    .exact absurd rfl (df_).2.2
  .rw[dU q1];by_cases q2:n=b
   .subst q2;rw[dL];show"!H"
    .show"!d";simp
    .rintro(z|⟨z,_⟩|⟨_,z⟩|z)
     .exact absurd rfl (ns _ _ (df!).1)
     .rw[z]
     .exact absurd z.symm qj
     .exact absurd rfl (ns _ _ (df_).1)
   .rw[dU q2,h.p,P];show"!P";show"!H"
    .show"#A"
     .exact cB!
     .exact cf!
     .exact jp!
    .rintro(z|⟨_,z⟩|⟨_,z⟩|z)
     .exact cB!
     .exact gP_
     .exact cf!
     .exact jp_
 .have f0:kget kf a0≠none:=by rw[(nr!).mpr m0];simp
  have f1:n∉(e8_).map b_:=λz=>by
   obtain z|z:=a2q.mp z
   .exact wv z.symm
   .obtain w|w:=(h.hasF n).mp (a3j.mpr z)
    .exact h0 w
    .exact hn w
  rw[iT f1,IL,wR f0,h.fl,len];rfl
 .have f1:n∉kp.map b_:=λz=>by
   obtain w|w:=(h.hasP n).mp (a3j.mpr z)
   .exact h0 w
   .exact hn w
  have f0:kget e9! b0≠none:=by rw[dU (HY qj),(ns!).mpr m0];simp
  rw[wR f0,iT f1,IL,h.pl,len];rfl
def Px.out(h:jl!)(e:Jv xs=u++a0::n::b0::v)(e':Jv gh=u++a0::b0::v)(h0:n≠.non):
  Px u9_ va! gh:=by
 have P':=fB u a0 b0 v;have P:Kc aP!=Kc jm_++(a0,n)::(n,b0)::Kc jn!:=by rw[e,fB];rfl
 rw[<-e']at P';have F:=a4c xs;have S:=qX xs;have zn:((e7_).map b_).Nodup:=by rw[F];exact IN.mpr u5!
 have wu:((e7_).map C_).Nodup:=by
  rw[S,JB];exact u6!
 have gj:=zn;have bd:=wu;rw[P]at gj bd;simp only[IW,HZ]at gj bd;rw[JB,IN,IN]at gj bd;have wv:a0≠n:=λz=>gj.2.1.1 f9!;have qj:b0≠n:=λz=>bd.2.1.1 f9!;have m1:(a0,n)∈Kc aP!:=by rw[P];simp
 have m2:(n,b0)∈Kc aP!:=by rw[P];simp
 have len:k_=gh.length+1:=by
  show"!N"
 have dF:∀a b,aa_∈Kc jm_\/aa_∈Kc jn!->aa_∈Kc aP!/\(a≠a0/\a≠n)/\(b≠b0/\b≠n):=λa b hm=>by
  have q:aa_∈Kc aP!:=by rw[P];obtain z|z:=hm<;>simp[z]
  have g1:a≠a0/\a≠n:=by
   obtain w|w:=hm
   .have:=IE (f:=b_) w;exact⟨va_,va_⟩
   .have:=IE (f:=b_) w;exact⟨λz=>gj.2.1.1 (HP _ jr!),λz=>gj.2.1.2.1 jr!⟩
  have g2:b≠b0/\b≠n:=by
   obtain w|w:=hm
   .have:=IE (f:=C_) w;exact⟨vc!,vc!⟩
   .have:=IE (f:=C_) w;exact⟨λz=>bd.2.1.2.1 jr!,λz=>bd.2.1.1 (HP _ jr!)⟩
  exact⟨q,g1,g2⟩
 have gb:(np_).Nodup:=by
  rw[<-qX gh,P'];simp only[IW,HZ];rw[JB,IN];exact⟨bd.1,bd.2.1.2,λa ha b hb=>bd.2.2 a ha b (HP _ hb)⟩
 rw[JB]at gb;have Z9:kget kf a0≠none:=by rw[(nr!).mpr m1];simp
 have dz:kget kp b0≠none:=by rw[(ns!).mpr m2];simp
 refine⟨e8!,e8!,gb.1,u8_,kR (b9x h.kf_nd),kR (b9x h.kp_nd),?_,?_⟩
 .rw[P'];show"!P";by_cases q1:a0=a
  .show"#%"
   .show"!d";simp
   .show"#A"
    .exact absurd rfl (df!).2.1.1
    .rw[z]
    .exact absurd rfl (df_).2.1.1
  .rw[dU q1];by_cases q2:n=a
   .subst q2;rw[wZ h.kf_nd];show"!H"
    .show"!d"
    .show"#@"
     .exact absurd rfl (df!).2.1.2
     .exact cf!
     .exact absurd rfl (df_).2.1.2
   .rw[xA q2,h.f,P];show"!P";show"!H"
    .rintro(z|⟨z,_⟩|⟨z,_⟩|z)
     .exact cB!
     .exact cf!
     .exact gP_
     .exact jp_
    .show"#@"
     .exact cB!
     .exact cf!
     .exact jp!
 .rw[P'];show"!P";by_cases q1:b0=b
  .show"#%"
   .show"!d";simp
   .show"#@"
    .exact absurd rfl (df!).2.2.1
    .rw[z]
    .exact absurd rfl (df_).2.2.1
  .rw[dU q1];by_cases q2:n=b
   .subst q2;rw[wZ h.kp_nd];show"!H"
    .show"!d"
    .show"#A"
     .exact absurd rfl (df!).2.2.2
     .exact cf!
     .exact absurd rfl (df_).2.2.2
   .rw[xA q2,h.p,P];show"!P";show"!H"
    .rintro(z|⟨_,z⟩|⟨_,z⟩|z)
     .exact cB!
     .exact gP_
     .exact cf!
     .exact jp_
    .show"#A"
     .exact cB!
     .exact cf!
     .exact jp!
 .have:=xE (l:=kf) (d:=n) (by rw[(nr!).mpr m2];simp);rw[wR (by rw[xA (HY wv)];exact Z9)];have:=h.fl;omega
 .have:=xE (l:=kp) (d:=n) (by rw[(ns!).mpr m1];simp);rw[wR (by rw[xA (HY qj)];exact dz)];have:=h.pl;omega
def d1p:(Str.ofString "following"==Str.ofString "preceding")=false:=by decide+kernel
def d0s:(Str.ofString "preceding"==Str.ofString "following")=false:=by decide+kernel
def a0f:(Str.ofString "following"==Str.ofString "following")=true:=by decide+kernel
def lkP:List.lookup (Str.ofString "preceding") [(Str.ofString "following",a),(Str.ofString "preceding",b)]=some b:=by simp[JP,d0s]
structure Ek(t:Ar)(M:Mh)(r f p:xz!)(xs:b!):Prop where
 ob:M r=some (.obj t.B5 [("following",.fn f),("preceding",.fn p)])
 dc:∃kf ef kp ep,M f=some (.dct kf ef)/\M p=some (.dct kp ep)/\Px kf kp xs
 ne:f≠p
def a0b:Cj d=true↔d=.non:=by cases d<;>simp[Cj]
def jW(hd:d≠.non):Cj d=false:=by cases q:Cj d with|false=>rfl|true=>exact absurd (a0b.mp q) hd
def a7e{t:Ar}{M:Mh}{R:s_}(h:d4!)(hk:bs!)(hR:R (.bl (open Classical in decide (d∈xs))) M):Hw t [.fn r,d] M R:=by
 obtain⟨kf,ef,kp,ep,hf,hp,K⟩:=h.dc;refine k!;by_cases hd:d=.non
 .subst hd;have:(D.non∈xs)=False:=by simp[K.no]
  simp only[this,QI]at hR;simpa[Lv,Ay,Jw,wT,wl,f2,Aa,fC,Ap,Cj]using hR
 .have e3:(kget kf d).isSome=(open Classical in decide (d∈xs)):=by
   have:=K.hasF d;cases q:kget kf d with
   |none=>rw[q]at this;simp[hd]at this;simp[this]
   |some v=>rw[q]at this;simp[hd]at this;simp[this]
  rw[<-e3]at hR;simpa[Lv,Ay,Jw,wT,wl,f2,Aa,fC,Ap,jW hd,w2,Av,Gr,h.ob,Dx,Hs,hf,hk,a0f]using hR
def mW{α:Type}{a:α}:∀{l:N_},a∈l->∃u v,l=u++a::v/\a∉u
 |x::r,h=>open Classical in by
  by_cases e:a=x
  .exact⟨[],r,by rw[e];rfl,G_⟩
  .obtain⟨u,v,rfl,hu⟩:=mW ((HQ.mp h).resolve_left e);exact⟨x::u,v,rfl,by simp[e,hu]⟩
def b7k(h0:D.non∉xs):∃u b0 v,Jv xs=u++(open Classical in if o∈xs then o else .non)::b0::v/\Jv (Pv n o xs)=u++(open Classical in if o∈xs then o else .non)::n::b0::v:=by
 by_cases h:o∈xs
 .obtain⟨u,v,rfl,hu⟩:=mW h;obtain⟨b0,v',e⟩:∃b0 v',v++[D.non]=b0::v':=by cases v with|nil=>exact bD_|cons a r=>exact bD_
  refine⟨.non::u,b0,v',?_,?_⟩
  .rw[IA h];simp[Jv,e]
  .unfold Pv;rw[IA h,IA h,kX hu];simp[Jv,e]
 .obtain⟨b0,v',e⟩:∃b0 v',xs++[D.non]=b0::v':=by cases xs with|nil=>exact bD_|cons a r=>exact bD_
  refine⟨[],b0,v',?_,?_⟩
  .rw[HR h];simp[Jv,e]
  .unfold Pv;rw[HR h,HR h];simp[Jv,e]
def jF{t:Ar}{M:Mh}{xs:b!}{R:s_}(h:d4!)(hn:Dc n=some kn)(ho:Dc o=some ko)(n0:n≠.non)(nx:n∉xs)(hl:k_<5000)(gk:nu_)
  (hR:∀M',Ek t M' r f p (Pv n o xs)->vg!->R .non M'):Cv t [.fn r,n,o] M R:=by
 obtain⟨kf,ef,kp,ep,hf,hp,K⟩:=h.dc;have oo:r≠f:=λz=>by have:=h.ob;rw[z,hf]at this;cases this
 have jr:r≠p:=λz=>by have:=h.ob;rw[z,hp]at this;cases this
 obtain⟨u,b0,v,c1,c2⟩:=b7k (n:=n) (o:=o) K.no;generalize ea:(open Classical in if o∈xs then o else D.non)=a0 at c1 c2;have m0:(a0,b0)∈Kc aP!:=by rw[c1,fB];simp
 have kj:kget kf a0=some b0:=(gR_).mpr m0;have K':=K.ins c1 c2 nx n0;have ka:∃k,Dc a0=some k:=by
  have:=(K.hasF a0).mp vg_;obtain rfl|z:=this
  .exact I_
  .exact gk _ z
 have kb:∃k,Dc b0=some k:=by
  have:=(K.hasP b0).mp (by rw[(nw_).mpr m0];simp);obtain rfl|z:=this
  .exact I_
  .exact gk _ z
 obtain⟨ka,zo⟩:=ka;obtain⟨kb,zp⟩:=kb;have l1:kf.length<big:=by have:=K.fl;unfold big;omega
 have l2:kp.length<big:=by have:=K.pl;unfold big;omega
 have l3:(e8_).length<big:=MB d4_ (by have:=K.fl;unfold big;omega);have l4:(e9!).length<big:=MB d4_ (by have:=K.pl;unfold big;omega);refine k!;simp only[Kb,Ah,An,BC,wT,Ba,wl,Ab,Af,Aa];simp[Dg,h.ob,d1p,a0f];refine⟨⟨f4_,f4_⟩,?_⟩;refine a7e h ho ?_;have key:∀(b:Bool),b=(open Classical in decide (o∈xs))->((b=true/\o=a0)\/(b=false/\D.non=a0)):=λb hb=>by
  subst hb;rw[<-ea];by_cases z:o∈xs<;>simp[z]
 generalize hb:(open Classical in decide (o∈xs))=b;have fin:R .non (Bd (Bd (Bd (Bd M f (.dct e8_ (Gp kf a0 ef))) p (.dct e9! (Gp kp n ep))) f (.dct (As e8_ n b0) (Gp e8_ n (Gp kf a0 ef)))) p (.dct (As e9! b0 n) (Gp e9! b0 (Gp kp n ep)))):=by
  refine hR _ vh! λb ub uc=>?_
  .rw[jv!,jv_,jv!,jv_];exact h.ob
  .rw[jw!,jw_,jw!,jw_]
 obtain⟨rfl,rfl⟩|⟨rfl,rfl⟩:=key b hb.symm<;>
 simpa[Ah,An,w2,wl,Av,Bw,Dx,Gr,Aa,fC,f2,h.ob,a0f,lkP,Br,hf,hp,zo,zp,hn,kj,Lf,l1,l2,l3,l4,mup_ne,mup_same,oo,jr,h.ne,HY h.ne]using fin
def a4r{t:Ar}{M:Mh}{xs:b!}{R:s_}(h:d4!)(O:xs=u++n::v)(hn:Dc n=some kn)(hl:k_<5000)(gk:nu_)
  (hR:∀M',Ek t M' r f p bm!->vg!->R .non M'):Jf t [.fn r,n] M R:=by
 obtain⟨kf,ef,kp,ep,hf,hp,K⟩:=h.dc;have oo:r≠f:=λz=>by have:=h.ob;rw[z,hf]at this;cases this
 have jr:r≠p:=λz=>by have:=h.ob;rw[z,hp]at this;cases this
 have n0:n≠.non:=λz=>K.no (by rw[O,<-z];simp);obtain⟨b0,v',ev⟩:∃b0 v',v++[D.non]=b0::v':=by cases v with|nil=>exact bD_|cons a r=>exact bD_
 obtain⟨u',a0,eu⟩:∃u' a0,D.non::u=u'++[a0]:=⟨(jx_).dropLast,(jx_).getLast d_,(List.dropLast_concat_getLast d_).symm⟩;have c1:Jv xs=u'++a0::n::b0::v':=by
  rw[O];show D.non::vi_=_;rw[show D.non::vi_=jx_++n::(v++bR!)by simp,eu,ev];simp
 have c2:Jv bm!=u'++a0::b0::v':=by
  show D.non::(u++v++bR!)=_;rw[show D.non::(u++v++bR!)=jx_++(v++bR!)by simp,eu,ev];simp
 have m1:(a0,n)∈Kc aP!:=by rw[c1,fB];simp
 have m2:(n,b0)∈Kc aP!:=by rw[c1,show u'++a0::n::b0::v'=(u'++[a0])++n::b0::v' by simp,fB];simp
 have zq:kget kp n=some a0:=(nw_).mpr m1;have kj:kget kf n=some b0:=(gR_).mpr m2;have K':=K.out c1 c2 n0;have ka:∃k,Dc a0=some k:=by
  have:=(K.hasF a0).mp (by rw[(gR_).mpr m1];simp);obtain rfl|z:=this
  .exact I_
  .exact gk _ z
 have kb:∃k,Dc b0=some k:=by
  have:=(K.hasP b0).mp (by rw[(nw_).mpr m2];simp);obtain rfl|z:=this
  .exact I_
  .exact gk _ z
 obtain⟨ka,zo⟩:=ka;obtain⟨kb,zp⟩:=kb;have l1:(jq!).length<big:=by have:=xE (l:=kf) (d:=n) vg_;have:=K.fl;unfold big;omega
 have l2:(jq_).length<big:=by have:=xE (l:=kp) (d:=n) (by rw[zq];simp);have:=K.pl;unfold big;omega
 refine k!;have fin:R .non (Bd (Bd (Bd (Bd M p (.dct jq_ bI_)) f (.dct jq! (ef+1))) f (.dct u9_ (Gp jq! a0 (ef+1)))) p (.dct va! (Gp jq_ b0 bI_))):=by
  refine hR _ vh! λb ub uc=>?_
  .rw[jv!,jv_,jv_,jv!];exact h.ob
  .rw[jw!,jw_,jw_,jw!]
 simpa[Lu,Ah,An,w2,wl,Av,Bw,Ym,Ef,Dx,Gr,Aa,fC,f2,h.ob,a0f,lkP,hf,hp,zo,zp,hn,kj,zq,Lf,l1,l2,mup_ne,mup_same,oo,jr,h.ne,HY h.ne]using fin
def zT{t:Ar}{M:Mh}{xs:b!}{R:s_}(h:d4!)(hl:k_<5000)(gk:nu_)(hR:R R! M):Il t [.fn r] M R:=by
 obtain⟨kf,ef,kp,ep,hf,hp,K⟩:=h.dc;have step:∀(done rest:b!) (oq:D) (tl:b!),xs=done++rest->rest++bR!=oq::tl->∀R',R' (.nx [some ba_,some R!,some .non]) M->
   Bz rK_ rL_ (rest.length+1) [some ba_,some (.lst done),some oq] M R':=by
  intro done rest
  induction rest generalizing done with
  |nil=>
   intro oq tl e1 e2 R' g7;simp at e1 e2;obtain⟨rfl,_⟩:=e2;subst e1;simpa[Bz,Da,fT,f2,Aa,fC,Ap,Cj]using g7
  |cons y rest ih=>
   intro oq tl e1 e2 R' g7;simp only[MX,NK]at e2;obtain⟨rfl,rfl⟩:=e2;have hy:y∈xs:=by rw[e1];simp
   have y0:y≠.non:=λz=>K.no (z▸hy);obtain⟨k,ek⟩:=gk y hy;obtain⟨nx,tl,ev⟩:∃b0 v',rest++[D.non]=b0::v':=by cases rest with|nil=>exact bD_|cons a r=>exact bD_
   have kj:kget kf y=some nx:=(gR_).mpr (by
    rw[e1,Jv,show D.non::(done++y::rest++bR!)=(D.non::done)++y::(rest++bR!)by simp,ev,fB];simp)
   have hb:done.length<big:=by have:=congrArg List.length e1;simp at this;unfold big;omega
   have:=ih (done++[y]) nx tl (by simp[e1]) ev R' g7;rw[IH,Bz];simpa[Da,fT,f2,Aa,fC,Ap,jW y0,Ah,Tp,Dx,Pr,hb,An,w2,wl,Av,Gr,h.ob,a0f,Br,hf,ek,kj]using this
 obtain⟨oq,tl,ev⟩:∃b0 v',xs++[D.non]=b0::v':=by cases xs with|nil=>exact bD_|cons a r=>exact bD_
 have kj:kget kf .non=some oq:=(gR_).mpr (by rw[Jv,ev];simp[Kc]);refine k!;simp only[Ob,Ah,Tp];simp[Dx,Lp,Ag,An,w2,wl,Av,Gr,Aa,fC,h.ob,a0f,Br,hf,kj,Dc,Iv];refine⟨k_+1,step [] xs oq tl rfl ev _ ?_⟩;simpa[Ay,wl,Aa]using hR
abbrev root:D:=.str "root"
abbrev binn:D:=.str "bin"
def b1u:root≠binn:=by intro z;simp only[D.str.injEq]at z;exact absurd z u!
def Ik(x:D):Prop:=∃a b,x=.tup [.int a,fa_]
def Pw(x:D):Prop:=∃a b c,x=.tup vj_
def Ik.key(h:Ik x):∃k,Dc x=some k:=by obtain⟨a,b,rfl⟩:=h;exact I_
def Pw.key(h:Pw x):∃k,Dc x=some k:=by obtain⟨a,b,c,rfl⟩:=h;exact I_
def Ik.nn(h:Ik x):x≠.non/\x≠root/\x≠binn:=by obtain⟨a,b,rfl⟩:=h;refine⟨?_,?_,?_⟩<;>(intro z;cases z)
def Pw.nn(h:Pw x):x≠.non:=by obtain⟨a,b,c,rfl⟩:=h;intro z;cases z
structure OW where
 rows:List aF_
 its:List D
 txt:D->List d5!
 num:D->List D
open Classical in
nonrec def chl(rows:h_)(x:D):List D:=(rows.filter λq=>q.2=x).map b_
open Classical in
nonrec def wo(rows:h_)(i:D):List aF_:=rows.filter λq=>q.1≠i
inductive Wn(rows:h_)(i:D):D->Prop
 |here:Wn rows i i
 |up {x p:D}:bb!∈rows->Wn rows i p->Wn rows i x
def Rl(rows:h_)(i p s:D)(rows':h_):Prop:=∃u v,wo rows i=u++v/\rows'=u++bS!::v/\((s∉chl d5_ p/\chl u p=[])\/∃u',u=u'++[dg!])
def Ft(W:OW)(x:D):Prop:=x∈W.its\/x=root\/x=binn
structure By(W:OW):Prop where
 nd:nB!
 nm:∀x∈W.its,Ik x
 rnd:(W.rows.map b_).Nodup
 ri:∀x,x∈W.rows.map b_↔x∈W.its
 rp:∀i p,bS!∈W.rows->Ft W p
 rk:∃rk:D->Nat,∀i p,bS!∈W.rows->rk p<rk i
 snd:∀x∈W.its,(nB_).Nodup
 sg:∀x∈W.its,∀q∈W.txt x,Pw q.1
 su:∀x∈W.its,∀y∈W.its,∀q∈W.txt x,∀q'∈W.txt y,q.1=q'.1->x=y
 nl:∀x∈W.its,(bT!).length=4
section
open Classical
def kM{q:D×D}:q∈wo rows i↔q∈rows/\q.1≠i:=by unfold wo;rw[KM];simp
def gU:c∈chl rows x↔(c,x)∈rows:=by
 unfold chl;rw[IP];show"!H"
 .rintro⟨⟨a,b⟩,h,rfl⟩;rw[KM]at h;have:=h.2;simp at this;rw[<-this];exact h.1
 .intro h;exact⟨(c,x),KM.mpr ⟨h,G_⟩,rfl⟩
def eI:chl bm! x=chl u x++chl v x:=by unfold chl;rw[RD,IW]
def jO:chl (bS!::v) p=i::chl v p:=by unfold chl;rw[KJ d_];rfl
def tY(h:p≠x):chl (bS!::v) x=chl v x:=by unfold chl;rw[KB kd!]
def b3j{rows:h_}:(chl rows x).Sublist kz_:=by unfold chl;exact(QW).map _
def kA{rows:h_}:((d5_).map b_).Sublist kz_:=by unfold wo;exact(QW).map _
def Rl.chl_same{rows:h_}(h:gS_)(nd:fy_):chl rows' p=Pv i s (chl d5_ p):=by
 obtain⟨u,v,e,rfl,hc⟩:=h;rw[eI,jO];have bd:((bm!).map b_).Nodup:=by rw[<-e];exact nd.sublist kA
 obtain⟨B,Y⟩|⟨u',rfl⟩:=hc
 .unfold Pv;rw[HR B,e,eI,Y];rfl
 .rw[e];have hs:s∈chl vm_ p:=gU.mpr d_;unfold Pv;have Y:chl (u'++[dg!]) p=chl u' p++[s]:=by rw[eI,jO];rfl
  have h3:chl vm_ p=chl u' p++s::chl v p:=by rw[eI,Y];simp
  rw[IA hs,Y,h3];have hu:s∉chl u' p:=λz=>by
   have:=gU.mp z;simp only[IW,HZ,NE,JL]at bd;rw[JB]at bd;exact bd.2.2 _ vn_ s d_ rfl
  rw[kX hu];simp
def Rl.chl_ne(h:gS_)(O:p≠x):chl rows' x=chl d5_ x:=by obtain⟨u,v,e,rfl,hc⟩:=h;rw[eI,tY O,e,eI]
def Rl.mem(h:gS_){q:D×D}:q∈rows'↔q=bS!\/q∈wo rows i:=by
 obtain⟨u,v,e,rfl,hc⟩:=h;rw[e];simp only[HU,HQ];show"!H"
 .rintro(z|z|z)<;>simp[z]
 .rintro(z|z|z)<;>simp[z]
def Rl.nd{rows rows':h_}(h:gS_)(nd:fy_):(rows'.map b_).Nodup:=by
 obtain⟨u,v,e,rfl,hc⟩:=h;have bd:((bm!).map b_).Nodup:=by rw[<-e];exact nd.sublist kA
 have ni:i∉(bm!).map b_:=λz=>by
  obtain⟨q,hq,hi⟩:=IP.mp z;rw[<-e]at hq;exact(nC_).2 hi
 simp only[IW,HZ]at bd ni ⊢;rw[JB]at bd ⊢;rw[HU,OX]at ni;refine⟨bd.1,IN.mpr ⟨ni.2,bd.2.1⟩,u7!⟩;obtain rfl|hb:=HQ.mp hb
 .exact λz=>ni.1 jn_
 .exact u8!
def a0p(h:(i,x)∉rows):chl d5_ x=chl rows x:=by unfold chl wo;rw[RC];congr 1;apply NQ;intro q hq;simp only[ne_eq,decide_not,Bool.and_eq_left_iff_imp,JE,OV,LI,OF];rintro rfl z;exact h vo_
def b0u{rows:h_}(nd:fy_)(h:(i,x)∈rows):∃u v,chl rows x=u++i::v/\chl d5_ x=u++v:=by
 obtain⟨a,b,e,_⟩:=mW h;have n1:i∉(a++b).map b_:=by
  rw[e]at nd;simp only[IW,HZ]at nd ⊢;rw[JB,IN]at nd;rw[HU,OX];exact⟨λz=>nd.2.2 _ z i d_ rfl,nd.2.1.1⟩
 have e2:wo rows i=a++b:=by
  unfold wo;rw[e,RD,KB d_];have keep:∀l:List aF_,i∉l.map b_->l.filter (λq=>decide (q.1≠i))=l:=λl hl=>KR.mpr λq hq=>by
   simp only[ne_eq,decide_not,OV,LI,OF];exact λz=>hl jz_
  rw[IW,HU,OX]at n1;rw[keep a n1.1,keep b n1.2]
 refine⟨chl a x,chl b x,?_,?_⟩
 .rw[e,eI,jO]
 .rw[e2,eI]
def a8l{rows:h_}(nd:fy_)(h:bb!∈rows)(O:x≠i):Wn rows i x↔Wn rows i p:=by
 show"!H"
 .intro z;cases z with
  |here=>exact absurd rfl O
  |up Y z=>rw[jY nd h Y];exact z
 .exact λz=>.up h z
def b6e(h:∀p,bb!∉rows)(O:x≠i):¬Wn rows i x:=λz=>by
 cases z with
 |here=>exact O rfl
 |up Y _=>exact h _ Y
def Rl.winv{W:OW}(h:Rl W.rows i p s rows')(w:By W)(hi:gT_)(hp:Ft W p)(hw:¬Wn W.rows i p):By {W with rows:=rows'}:=by
 refine⟨w.nd,w.nm,h.nd w.rnd,jA_,jB!,?_,w.snd,w.sg,w.su,w.nl⟩
 .show x∈rows'.map b_↔x∈W.its;rw[<-w.ri x];show"!H"
  .intro z;obtain⟨q,hq,rfl⟩:=IP.mp z;obtain rfl|hq:=h.mem.mp hq
   .exact(w.ri i).mpr hi
   .exact IE (nC_).1
  .intro z;by_cases O:x=i
   .subst O;exact IP.mpr vr!
   .obtain⟨q,hq,rfl⟩:=IP.mp z;exact IE (h.mem.mpr (.inr (kM.mpr ⟨hq,O⟩)))
 .show Ft W b;obtain z|z:=h.mem.mp hm
  .cases z;exact hp
  .exact w.rp _ _ (kM.mp z).1
 .obtain⟨rk,g8⟩:=w.rk;refine⟨λx=>if Wn W.rows i x then rk x+rk p+1 else rk x,jB!⟩;obtain z|z:=h.mem.mp hm
  .cases z;show"#+";rw[HR hw,IA .here];omega
  .obtain⟨z1,z2⟩:=kM.mp z;have:=g8 _ _ z1;have q:=a8l w.rnd z1 z2;show"#+";by_cases c:Wn W.rows i a
   .rw[IA c,IA (q.mp c)];omega
   .rw[HR c,HR (λz=>c (q.mpr z))];show"#D"
def Gi(W:OW)(n:D)(rows':h_):OW:=⟨rows',W.its++[n],λx=>if x=n then[]else W.txt x,λx=>if x=n then[.int 0,.int 0,.int 0,.int 0]else W.num x⟩
def Rl.winv_put{W:OW}(h:Rl W.rows n p s rows')(w:By W)(hn:nF!)(ht:Ik n)(hp:Ft W p):By bb_:=by
 have nn:n∉W.rows.map b_:=λz=>hn ((w.ri n).mp z);have ju:wo W.rows n=W.rows:=by
  show"!`";exact λz=>nn jz_
 have pn:p≠n:=λz=>by
  obtain q|q|q:=hp
  .exact hn (z▸q)
  .exact ht.nn.2.1 (z▸q)
  .exact ht.nn.2.2 (z▸q)
 have im:∀x,x∈(bb_).its↔x∈W.its\/x=n:=λx=>by simp[Gi]
 refine⟨?_,aZ_,h.nd w.rnd,jA_,jB!,?_,aZ_,aZ_,jB_,aZ_⟩
 .show(W.its++[n]).Nodup;rw[JB];exact⟨w.nd,G_,λa ha b hb=>by simp at hb;subst hb;exact λz=>hn jn_⟩
 .obtain z|rfl:=(cB_).mp O
  .exact w.nm x z
  .exact ht
 .rw[im,<-w.ri x];show"!H"
  .intro z;obtain⟨q,hq,rfl⟩:=IP.mp z;obtain rfl|hq:=h.mem.mp hq
   .exact .inr rfl
   .rw[ju]at hq;exact .inl (IE hq)
  .rintro(z|rfl)
   .obtain⟨q,hq,rfl⟩:=IP.mp z;exact IE (h.mem.mpr (.inr (by rw[ju];exact hq)))
   .exact IP.mpr vr!
 .have up:∀y,Ft W y->Ft bb_ y:=λy hy=>by
   obtain q|q:=hy
   .exact .inl ((im y).mpr (.inl q))
   .exact .inr q
  obtain z|z:=h.mem.mp hm
  .cases z;exact up _ hp
  .rw[ju]at z;exact up _ (w.rp _ _ z)
 .obtain⟨rk,g8⟩:=w.rk;refine⟨λx=>if x=n then rk p+1 else rk x,jB!⟩;obtain z|z:=h.mem.mp hm
  .cases z;show"#+";rw[HR pn,j!];omega
  .rw[ju]at z;have ha:a≠n:=λq=>nn (q▸IE (f:=b_) z);have hb:b≠n:=λq=>by
    obtain y|y|y:=w.rp _ _ z
    .exact hn (q▸y)
    .exact ht.nn.2.1 (q▸y)
    .exact ht.nn.2.2 (q▸y)
   show"#+";rw[HR ha,HR hb];exact g8 _ _ z
 .show((nF_).map b_).Nodup;split
  .simp
  .rename_i q;exact w.snd x nG!
 .show∀q∈nF_,Pw q.1;split
  .intro q hq;cases hq
  .rename_i q;exact w.sg x nG!
 .show∀q∈nF_,∀q'∈(if y=n then[]else W.txt y),q.1=q'.1->x=y;split
  .intro q hq;cases hq
  .rename_i q1;split
   .intro q hq q' a9;cases a9
   .rename_i q2;exact w.su x ((nG_).resolve_right q1) y (((im y).mp hy).resolve_right q2)
 .show(vw!).length=4;split
  .rfl
  .rename_i q;exact w.nl x nG!
def Xt(b:D)(nw:af_):List d5!->List d5!
 |[]=>[]
 |x::r=>if x.1=b then x::(nw++r)else x::Xt b nw r
nonrec def wrT(b:D)(nw l:af_):List d5!:=if b∈l.map b_ then Xt b nw l else nw++l
def xI{u:af_}{q:fd!}(hq:q.1=b):b∉u.map b_->Xt b nw (u++q::v)=u++q::(nw++v):=by
 induction u with
 |nil=>intro _;simp[Xt,hq]
 |cons x u ih=>
  intro h;rw[HZ,HQ,OX]at h;simp only[MX,Xt];rw[kZ!,ih h.2]
def rB(b:D)(nw l:af_):∃u v,l=u++v/\wrT b nw l=u++nw++v/\((u=[]/\b∉l.map b_)\/∃u' q,u=u'++[q]/\q.1=b/\b∉u'.map b_):=by
 by_cases h:b∈l.map b_
 .obtain⟨u,v,e,hu⟩:=mW h;obtain⟨u',r,e1,e2,e3⟩:=List.map_eq_append_iff.mp e;obtain⟨q,v',e4,e5,e6⟩:=List.map_eq_cons_iff.mp e3;subst e4;refine⟨u'++[q],v',by simp[e1],?_,.inr ⟨u',q,rfl,e5,by rw[e2];exact hu⟩⟩;unfold wrT;rw[IA h,e1,xI e5 (by rw[e2];exact hu)];simp
 .exact⟨[],l,rfl,by unfold wrT;rw[HR h];rfl,.inl bn!⟩
nonrec def setT(W:OW)(a:D)(l:af_):OW:={W with txt:=λx=>if x=a then l else W.txt x}
def rE{W:OW}{l:af_}(w:By W)(ha:d6_)(B:(et!).Nodup)(Y:∀q∈l,Pw q.1)(h3:∀q∈l,∀y∈W.its,∀q'∈W.txt y,q.1=q'.1->y=a):By nI_:=by
 refine⟨w.nd,w.nm,w.rnd,w.ri,w.rp,w.rk,aZ_,aZ_,jB_,w.nl⟩
 .show((nI!).map b_).Nodup;split
  .exact B
  .exact w.snd x O
 .show∀q∈nI!,Pw q.1;split
  .exact Y
  .exact w.sg x O
 .show∀q∈nI!,∀q'∈(if y=a then l else W.txt y),q.1=q'.1->x=y;split
  .rename_i e1;subst e1;split
   .rename_i e2;intro _ _ _ _ _;exact e2.symm
   .intro q hq q' a9 e;exact(h3 q hq y hy q' a9 e).symm
  .split
   .rename_i e2;subst e2;intro q hq q' a9 e;exact h3 q' a9 x O q hq e.symm
   .exact w.su x O y hy
def Tz(W:OW)(a:D)(l:b!):OW:={W with num:=λx=>if x=a then l else W.num x}
def b3y{l:b!}(w:By W)(hl:al_=4):By (Tz W a l):=by
 refine⟨w.nd,w.nm,w.rnd,w.ri,w.rp,w.rk,w.snd,w.sg,w.su,aZ_⟩;show(if x=a then l else W.num x).length=4;split
 .exact hl
 .exact w.nl x O
end
nonrec def oF(a1 a2 a3 a4 a5 a6:xz!):List cm_:=[("parents",.fn a1),("rows",.fn a2),("texts",.fn a3),("numbers",.fn a4),("written",.fn a5),("hidden",.fn a6)]
section
variable{a1 a2 a3 a4 a5 a6:xz!}
def oF1:List.lookup d7_ Y_=some (D.fn a1):=by kernel_rfl
def oF2:List.lookup di_ Y_=some (D.fn a2):=by kernel_rfl
def oF3:List.lookup d8! Y_=some (D.fn a3):=by kernel_rfl
def oF4:List.lookup fd_ Y_=some (D.fn a4):=by kernel_rfl
def oF5:List.lookup nK! Y_=some (D.fn a5):=by kernel_rfl
def oF6:List.lookup vy_ Y_=some (D.fn a6):=by kernel_rfl
def oM1:List.lookup (Str.ofString "has") Y_=none:=by kernel_rfl
def oM2:List.lookup (Str.ofString "has_item") Y_=none:=by kernel_rfl
def oM3:List.lookup (Str.ofString "is_within") Y_=none:=by kernel_rfl
def oM4:List.lookup (Str.ofString "put") Y_=none:=by kernel_rfl
def oM5:List.lookup (Str.ofString "can_move") Y_=none:=by kernel_rfl
def oM6:List.lookup (Str.ofString "move") Y_=none:=by kernel_rfl
def oM7:List.lookup (Str.ofString "write") Y_=none:=by kernel_rfl
def oM8:List.lookup (Str.ofString "cut") Y_=none:=by kernel_rfl
def oM9:List.lookup (Str.ofString "set_number") Y_=none:=by kernel_rfl
def d2n:List.lookup (Str.ofString "parent_of") Y_=none:=by kernel_rfl
def d2m:List.lookup (Str.ofString "children_of") Y_=none:=by kernel_rfl
def d2l:List.lookup (Str.ofString "signs_of") Y_=none:=by kernel_rfl
def d2k:List.lookup (Str.ofString "text_of") Y_=none:=by kernel_rfl
def d2j:List.lookup (Str.ofString "numbers_of") Y_=none:=by kernel_rfl
end
def rM:List.lookup (Str.ofString "put_behind") jF!=none/\List.lookup (Str.ofString "take_out") jF!=none/\List.lookup (Str.ofString "listed") jF!=none/\List.lookup (Str.ofString "holds") jF!=none:=⟨jF_,jF_,jF_,jF_⟩
inductive Pc
 |ob|par|rows|texts|nums|writ|hid|rO (x:D)|rF (x:D)|rP (x:D)|tO (x:D)|tF (x:D)|tP (x:D)|nm (x:D)|oth
structure Rt(t:Ar)(M:Mh)(o:xz!)(rl:bU!)(W:OW)(h1:Nat)(a1 a2 a3 a4 a5 a6:xz!)(k1 k2 k3 k4 k5 k6:h_):Prop where
 ob:M o=some vz_
 d1:∃e,M a1=some (.dct k1 e)
 d2:∃e,M a2=some (.dct k2 e)
 d3:∃e,M a3=some (.dct k3 e)
 d4:∃e,M a4=some (.dct k4 e)
 d5:∃e,M a5=some (.dct k5 e)
 d6:∃e,M a6=some (.dct k6 e)
 ro:rl o=.ob
 r1:rl a1=.par
 r2:rl a2=.rows
 r3:rl a3=.texts
 r4:rl a4=.nums
 r5:rl a5=.writ
 r6:rl a6=.hid
 p0:kget k1 root=some .non/\kget k1 binn=some .non
 pr:∀i p,bS!∈W.rows->kget k1 i=some p
 row:∀x,Ft W x->∃r f p,kget k2 x=some ba_/\Ek t M r f p gX!/\rl r=.rO x/\rl f=.rF x/\rl p=.rP x
 rown:∀x,¬Ft W x->kget k2 x=none
 txt:∀x,x∈W.its->∃r f p,kget k3 x=some ba_/\Ek t M r f p nB_/\rl r=.tO x/\rl f=.tF x/\rl p=.tP x
 txtn:∀x,x∉W.its->kget k3 x=none
 num:∀x,x∈W.its->∃q,kget k4 x=some bU_/\M q=some fe!/\rl q=.nm x
 wr:∀x∈W.its,∀q∈W.txt x,kget k5 q.1=some q.2.1
 hi:∀x∈W.its,∀q∈W.txt x,(kget k6 q.1).isSome=!q.2.2
 hk:∀s,kget k6 s≠none->∃x,x∈W.its/\s∈(aK_).map b_
 l1:nM_<=h1
 l2:k2.length<=h1
 l3:k3.length<=h1
 l4:k4.length<=h1
 l5:k5.length<=h1
 l6:k6.length<=h1
 lr:ch!<=h1
 lt:∀x∈W.its,(aK_).length<=h1
 live:∀b,rl b≠.oth->M b≠none
def Ce(t:Ar)(M:Mh)(o:xz!)(rl:bU!)(W:OW)(h1:Nat):Prop:=∃a1 a2 a3 a4 a5 a6 k1 k2 k3 k4 k5 k6,Rt t M o rl W h1 a1 a2 a3 a4 a5 a6 k1 k2 k3 k4 k5 k6
def Fr(M:Mh)(rl:bU!)(M':Mh)(ae:bU!):Prop:=∀b,M b≠none->rl b=.oth->M' b=M b/\ae b=.oth
def Fr.refl{M:Mh}{rl:bU!}:Fr M rl M rl:=λb _ h=>bn!
def Fr.trans{M M1 M2:Mh}{rl dh qk:bU!}(B:Fr M rl M1 dh)(Y:Fr M1 dh M2 qk):Fr M rl M2 qk:=λb hb L=>by
 show"!s"
section
variable{t:Ar}{M:Mh}{o:xz!}{rl:Addr->Pc}{W:OW}{h1:Nat}{R:D->Mh->Prop}
def qN{W:OW}(w:By W)(h:cC!):∃k,Dc x=some k:=by
 obtain h|rfl|rfl:=h
 .exact(w.nm x h).key
 .exact I_
 .exact I_
def uX{W:OW}(w:By W):∀c∈chl W.rows x,∃k,Dc c=some k:=λc hc=>by
 have:=gU.mp hc;exact(w.nm c ((w.ri c).mp vn_)).key
def a4d{W:OW}:(gX!).length<=ch!:=by have:=(b3j (rows:=W.rows) (x:=x)).length_le;simpa using this
def b1f{W:OW}(w:By W)(O:a0!):∀c∈(aK_).map b_,∃k,Dc c=some k:=λc hc=>by
 obtain⟨q,hq,rfl⟩:=IP.mp hc;exact(vA_).key
def Rt.noOb{a1 a2 a3 a4 a5 a6:xz!}{k3:h_}(h:gX_)(hm:(Y_).lookup m=none):Dg t.B4 m M ag!:=by simp[Dg,h.ob,hm]
def xL(h:aC_)(hk:aT!)(hR:R (.bl (open Classical in decide (Ft W x))) M):Cm t d9! M R:=by
 obtain⟨a1,a2,a3,a4,a5,a6,k1,k2,k3,k4,k5,k6,h⟩:=h;obtain⟨e2,Y⟩:=h.d2;refine k!;have e3:(kget k2 x).isSome=(open Classical in decide (Ft W x)):=by
  by_cases z:Ft W x
  .obtain⟨r,f,p,e,_⟩:=h.row x z;rw[e];simp[z]
  .rw[h.rown x z];simp[z]
 rw[<-e3]at hR;simpa[Nc,Ay,w2,wl,Av,Gr,Dx,Aa,h.ob,oF2,Hs,Y,hk]using hR
def hW(h:aC_)(hk:aT!)(hR:R (.bl (open Classical in decide gY_)) M):Ch t d9! M R:=by
 obtain⟨a1,a2,a3,a4,a5,a6,k1,k2,k3,k4,k5,k6,h⟩:=h;obtain⟨e2,Y⟩:=h.d3;refine k!;have e3:(kget k3 x).isSome=(open Classical in decide gY_):=by
  by_cases z:x∈W.its
  .obtain⟨r,f,p,e,_⟩:=h.txt x z;rw[e];simp[z]
  .rw[h.txtn x z];simp[z]
 rw[<-e3]at hR;simpa[Iz,Ay,w2,wl,Av,Gr,Dx,Aa,h.ob,oF3,Hs,Y,hk]using hR
def a1s(h:aC_)(hk:aT!)(O:jG!)(hR:R p M):Fe t d9! M R:=by obtain⟨a1,a2,a3,a4,a5,a6,k1,k2,k3,k4,k5,k6,h⟩:=h;obtain⟨e1,B⟩:=h.d1;refine k!;simpa[Ig,Ay,w2,wl,Av,Gr,Dx,Aa,h.ob,oF1,Br,B,hk,h.pr x p O]using hR
def xS(h:aC_)(w:By W)(hB:h1<4000)(O:cC!)(hR:R d9_ M):Er t d9! M R:=by obtain⟨a1,a2,a3,a4,a5,a6,k1,k2,k3,k4,k5,k6,h⟩:=h;obtain⟨e2,Y⟩:=h.d2;obtain⟨k,hk⟩:=qN w O;obtain⟨r,f,p,e,L,_⟩:=h.row x O;refine k!;simp[Gy,Ay,w2,wl,Av,Gr,Dx,Aa,h.ob,oF2,Br,Y,hk,e,Ba,Af,Dg,L.ob,rM];exact zT L (by have:=a4d (W:=W) (x:=x);have:=h.lr;omega) (uX w) hR
def yJ(h:aC_)(w:By W)(O:a0!)(hR:R fe! M):Ew t d9! M R:=by
 obtain⟨a1,a2,a3,a4,a5,a6,k1,k2,k3,k4,k5,k6,h⟩:=h;obtain⟨e4,h4⟩:=h.d4;obtain⟨k,hk⟩:=(w.nm x O).key;obtain⟨q,e,hq,_⟩:=h.num x O;have hl:(bT!).length<=big:=by rw[w.nl x O];decide
 refine k!;simpa[Hq,Ay,w1,Ab,Af,w2,wl,Av,Gr,Dx,Aa,h.ob,oF4,Br,h4,hk,e,We,Pq,hq,hl]using hR
end
def a0g:∀(xs ys:z!),Io (xs.map D.int) (ys.map D.int)=(xs==ys)
 |[],[]=>by simp[Io]
 |[],y::ys=>by simp[Io]
 |x::xs,[]=>by simp[Io]
 |x::xs,y::ys=>by simp[Io,Dw,a0g xs ys]
def Sd(d:D):Prop:=d=.non\/(∃x,d=.str x)\/(∃i,d=.int i)\/∃ns:List Int,d=.tup jt!
def a7b:∀{xs ys:z!},xs.map D.int=ys.map D.int->xs=ys
 |[],[],_=>rfl
 |[],_::_,h=>by simp at h
 |_::_,[],h=>by simp at h
 |x::xs,y::ys,h=>by
  simp only[HZ,NK,D.int.injEq]at h;rw[h.1,a7b h.2]
def mP(O:Sd x)(hy:Sd y):Dw x y=(open Classical in decide (x=y)):=by
 obtain rfl|⟨a,rfl⟩|⟨i,rfl⟩|⟨ns,rfl⟩:=O<;>obtain rfl|⟨b,rfl⟩|⟨j,rfl⟩|⟨ms,rfl⟩:=hy<;>simp[Dw,a0g]
 all_goals
  rw[LQ]
  first
   |(simp only[LW,JE,D.tup.injEq];exact⟨λz=>by rw[z],a7b⟩)
   |(simp only[LW,JE])
   |simp
def zN:∀(ns:z!),Bp o1_=true
 |[]=>by simp[Bp]
 |n::ns=>by simp[Bp,Bh,zN ns]
def eB(h:Sd x):Bh x=true:=by obtain rfl|⟨a,rfl⟩|⟨i,rfl⟩|⟨ns,rfl⟩:=h<;>simp[Bh,zN]
def a7s:∀(ns:z!),Dj o1_<=1
 |[]=>by simp[Dj]
 |n::ns=>by have:=a7s ns;simp[Dj,Ij];omega
def jM(h:Sd x):Ij x<=5:=by
 obtain rfl|⟨a,rfl⟩|⟨i,rfl⟩|⟨ns,rfl⟩:=h<;>simp[Ij]
 have:=a7s ns;omega
def Ik.sd(h:Ik x):Sd x:=by obtain⟨a,b,rfl⟩:=h;exact .inr nN_
def Pw.sd(h:Pw x):Sd x:=by obtain⟨a,b,c,rfl⟩:=h;exact .inr vC!
def iJ(x:Str):Sd dK!:=.inr (.inl ⟨x,rfl⟩)
def a3p{W:OW}(w:By W)(h:cC!):Sd x:=by
 obtain h|rfl|rfl:=h
 .exact(w.nm x h).sd
 .exact iJ _
 .exact iJ _
def a2d(O:Sd x)(hy:Sd y):Eu x y=some (.bl (!(open Classical in decide (x=y)))):=by unfold Eu;have:=jM O;rw[eB O,eB hy,mP O hy];rw[ea!]
def nQ(O:Sd x)(hy:Sd y):Aw x y=some (.bl (open Classical in decide (x=y))):=by unfold Aw;have:=jM O;rw[eB O,eB hy,mP O hy];rw[ea!]
section
variable{t:Ar}{M:Mh}{o:xz!}{rl:Addr->Pc}{W:OW}{h1:Nat}{R:D->Mh->Prop}
def Ek.keep{M':Mh}(h:d4!)(e1:M' r=M r)(e2:M' f=M f)(e3:M' p=M p):Ek t M' r f p xs:=by obtain⟨kf,ef,kp,ep,hf,hp,K⟩:=h.dc;exact⟨e1.trans h.ob,⟨kf,ef,kp,ep,e2.trans hf,e3.trans hp,K⟩,h.ne⟩
def Ek.live(h:d4!):M r≠none/\M f≠none/\M p≠none:=by obtain⟨kf,ef,kp,ep,hf,hp,K⟩:=h.dc;exact⟨by rw[h.ob];simp,by rw[hf];simp,by rw[hp];simp⟩
def qA{ρ:Ad}(hR:∀r f p M',M r=none->M f=none->M p=none->r≠f->r≠p->Ek t M' r f p []->(∀b,b≠r->b≠f->b≠p->M' b=M b)->R ba_ M'):Gu t.B5 1 (Hv t) Af ρ M R:=by
 refine⟨rfl,λr L=>k!⟩;have nf:∀{f:xz!},Bd M r (.obj t.B5 []) f=none->f≠r/\M f=none:=λ{f} z=>by
  by_cases e:f=r
  .rw[e,mup_same]at z;cases z
  .rw[mup_ne e]at z;exact⟨e,z⟩
 simp only[Ue,Ah,Fh];intro f hf;obtain⟨f1,f2⟩:=nf hf;refine⟨mup_same,ag_,by simp[Dc],G_,?_⟩;simp[wl,Aa,mup_ne,mup_same,HY f1,Bo];intro p hp;have p1:p≠r:=λe=>by rw[e,mup_same]at hp;cases hp
 rw[nO!]at hp;have p2:p≠f:=λe=>by rw[e,mup_same]at hp;cases hp
 rw[mup_ne p2,mup_ne p2,nO!]at hp;simp[El,No,wl,fC,Aa,mup_ne,mup_same,HY f1,HY p1,Bo,Dc];have b9:¬(Str.ofString "following"=Str.ofString "preceding"):=by decide+kernel
 simp only[b9,JM];refine hR r f p _ L f2 hp (HY f1) (HY p1) ⟨mup_same,⟨jl_,1,jl_,1,?_,?_,b6z⟩,HY p2⟩ λb B Y h3=>?_
 .rw[mup_ne f1,vE!,vE!,mup_ne f1,mup_same]
 .rw[nO!,mup_same]
 .rw[ci!,nO_,nO_,ci!,cC_,cC_,ci!]
def a9c{W:OW}(w:By W)(h:a0!):∃p,bb!∈W.rows:=by obtain⟨⟨a,p⟩,hq,rfl⟩:=IP.mp ((w.ri x).mpr h);exact⟨p,hq⟩
def sD{W:OW}(w:By W)(h:x∉W.its):∀p,bb!∉W.rows:=λp z=>h ((w.ri x).mp u2!)
def b1r{W:OW}(w:By W):root∉W.its:=λz=>(w.nm _ z).nn.2.1 rfl
def c1t{W:OW}(w:By W):binn∉W.its:=λz=>(w.nm _ z).nn.2.2 rfl
def d0m(h:Ik x\/x=root\/x=binn):x≠.non:=by
 obtain h|rfl|rfl:=h
 .exact h.nn.1
 .show"!d"
 .show"!d"
def c8n{W:OW}(w:By W)(h:cC!):x≠.non:=d0m (h.imp_left (w.nm x))
def sU{k3:h_}(h:gX_)(w:By W)(hi:Ik i){rk:D->Nat}(g8:vF_):
  ∀(n:Nat) (x:D),rk x<n->Ft W x->∀(R':j_),(Wn W.rows i x->R' (.nx [F_,M!,M!]) M)->(¬Wn W.rows i x->R' (.nx [F_,some .non,M!]) M)->
   ∃m,Bz gg! gg_ m nP! M R'
 |0,x,hn,_,_,_,_=>by omega
 |n+1,x,hn,O,R',r1,r2=>by
  obtain⟨e1,B⟩:=h.d1;have x0:=c8n w O;have ne:=a2d (a3p w O) hi.sd;by_cases e:x=i
  .subst e;have:=r1 .here;refine g0!;simpa[Bz,Da,Co,fT,f2,Aa,fC,Ap,jW x0,ne]using this
  .have st:∀(p:D) (m:Nat),kget k1 x=some p->Bz gg! gg_ m [F_,cD!,M!] M R'->
     Bz gg! gg_ (m+1) nP! M R':=λp m hp hw=>by
    obtain⟨k,hk⟩:=qN w O;rw[Bz];simpa[Da,Co,fT,f2,Aa,fC,Ap,jW x0,ne,e,An,w2,wl,Av,Gr,Dx,h.ob,oF1,Br,B,hk,hp]using hw
   have top:kget k1 x=some .non->vG_->∃m,Bz gg! gg_ m nP! M R':=λhp L=>by
    have:=r2 (b6e L e);refine⟨1+1,st .non 1 hp ?_⟩;simpa[Bz,Da,Co,fT,f2,Aa,fC,Ap,Cj]using this
   obtain O|rfl|rfl:=O
   .obtain⟨p,hp⟩:=a9c w O;have q:=a8l w.rnd hp e;have:=g8 _ _ hp;obtain⟨m,hm⟩:=sU h w hi g8 n p a! (w.rp _ _ hp) R' vH! (λz=>r2 λy=>z (q.mp y));exact⟨m+1,st p m (h.pr _ _ hp) hm⟩
   .exact top h.p0.1 (sD w (b1r w))
   .exact top h.p0.2 (sD w (c1t w))
def a3o(h:aC_)(w:By W)(O:cC!)(hi:Ik i)(hR:R (.bl (open Classical in decide (Wn W.rows i x))) M):Ff t [bc!,x,i] M R:=by
 obtain⟨a1,a2,a3,a4,a5,a6,k1,k2,k3,k4,k5,k6,h⟩:=h;obtain⟨rk,g8⟩:=w.rk;obtain⟨m,hm⟩:=sU h w hi g8 (rk x+1) x a! O (λr M1=>match r with|.nx ah=>Ay (wl iw!) ah M1 g0_|.rt d=>R d M1)
  (λz=>by simp only[z,PY]at hR;simpa[Ay,wl,f2,Aa,fC,Ap,jW hi.nn.1]using hR)
  (λz=>by simp only[z,QI]at hR;simpa[Ay,wl,f2,Aa,fC,Ap,Cj]using hR)
 refine k!;simp only[Ih,Ah,Iv];exact⟨m,hm⟩
def a8a(h:aC_)(w:By W)(cn:fe_)(gk:nP_)(hR:∀b:Bool,(b=true↔eb!)->R bM_ M):Fv t [bc!,i,x] M R:=by
 have h':=h;show"!3";simp only[Ja,Ay,Jw,wT,Ba,wl,Ab,Af,Aa];simp[nQ_];show"!f"
 .simp only[c1,PY,JT];refine⟨hA.noOb oM1,?_⟩;refine xL h gk ?_;by_cases c2:Ft W x
  .simp only[c2,PY,JT,Wz,wT,Ba,wl,Ab,Af,Aa];refine⟨hA.noOb oM3,rfl,?_⟩;refine a3o h w c2 (w.nm i c1) ?_;exact hR _ (by simp[c1,c2])
  .simp only[c2,QI];exact hR _ (by simp[c2])
 .simp only[c1,QI];exact hR _ (by simp[c1])
def yA{p n:Int}(h:aC_)(w:By W)(cn:fe_)(p0:0<=p)(p3:p<=3)
  (hR:∀M',Ce t M' o rl (open Classical in if i∈W.its then Tz W i nR! else W) h1->Fr M rl M' rl->R .non M'):Ev t [bc!,i,.int p,aP_] M R:=by
 have h':=h;show"!3";simp only[Ho,Aq,wT,Ba,wl,Ab,Af,Aa];simp[Dg,hA.ob,oM2];show"!f"
 .simp only[c1,JT]at hR;obtain⟨e4,h4⟩:=hA.d4;obtain⟨q,e,hq,jw⟩:=hA.num i c1;have O:Ea (jH_).length p=some p.toNat:=by
   rw[w.nl i c1];unfold Ea;rw[IA p0,S_]
  have ar:∀b,rl b≠.nm i->Bd M q (.lst nR!) b=M b:=λb hb=>mup_ne λz=>hb vL!;have fin:R .non (Bd M q (.lst nR!)):=by
   refine hR _ ⟨a1,a2,a3,a4,a5,a6,k1,k2,k3,k4,k5,k6,?_⟩ λb hb L=>vL_;refine{hA with ob:=?_,d1:=?_,d2:=?_,d3:=?_,d4:=?_,d5:=?_,d6:=?_,row:=?_,txt:=?_,num:=?_,live:=?_}
   .rw[ar o P_];exact hA.ob
   .rw[ar a1 bV!];exact hA.d1
   .rw[ar a2 aD!];exact hA.d2
   .rw[ar a3 a0_];exact hA.d3
   .rw[ar a4 a1!];exact hA.d4
   .rw[ar a5 aQ!];exact hA.d5
   .rw[ar a6 aD_];exact hA.d6
   .show"!u"
   .intro x O;obtain⟨r,f,p',g1,g2,g3,g4,g5⟩:=hA.txt x O;exact nS!
   .intro x O;by_cases c:x=i
    .subst c;refine⟨q,e,?_,jw⟩;rw[mup_same];simp[Tz]
    .obtain⟨q',g1,g2,g3⟩:=hA.num x O;refine⟨q',g1,?_,g3⟩;rw[ar q' (by rw[g3];simpa using c),g2];simp[Tz,c]
   .intro b hb;by_cases c:b=q
    .rw[c,mup_same];simp
    .rw[mup_ne c];show"#$"
  simpa[c1,Bw,w2,wl,Av,Gr,Dx,Aa,hA.ob,oF4,Br,h4,cn,e,Lf,hq,O]using fin
 .simp only[c1,JM]at hR;have:=hR M h .refl;simpa[c1,Bq]using this
end
end K11
namespace K11
open PySem L2 DL
open Classical
section
variable{t:Ar}{M:Mh}{o:xz!}{rl:Addr->Pc}{W:OW}{h1:Nat}{R:D->Mh->Prop}
def Ce.mono{B':Nat}(h:aC_)(hb:h1<=B'):Ce t M o rl W B':=by obtain⟨a1,a2,a3,a4,a5,a6,k1,k2,k3,k4,k5,k6,hA⟩:=h;exact⟨a1,a2,a3,a4,a5,a6,k1,k2,k3,k4,k5,k6,{hA with l1:=JD hA.l1 hb,l2:=JD hA.l2 hb,l3:=JD hA.l3 hb,l4:=JD hA.l4 hb,l5:=JD hA.l5 hb,l6:=JD hA.l6 hb,lr:=JD hA.lr hb,lt:=λx O=>JD jI_ hb}⟩
def rH(i:D):setT W i bn_=W:=by
 unfold setT;cases W with
 |mk a b c d=>
  congr 1;funext x;show"#+";split
  .rename_i e;rw[e]
  .rfl
open Classical in
nonrec def cutT(cu:b!)(l:af_):List d5!:=l.map λq=>nS_
def c1i(l:af_):cutT [] l=l:=by unfold cutT;simp
def pE(g:b!)(l:af_):(cutT g l).map b_=l.map b_:=by unfold cutT;simp
def a7w(g:b!)(s:D)(l:af_):cutT [s] (cutT g l)=cutT (g++[s]) l:=by unfold cutT;rw[JR];apply KQ;intro q _;simp only[Function.comp,HU];congr 2;rw[Bool.and_assoc];congr 1;by_cases B:q.1∈g<;>by_cases Y:q.1∈[s]<;>simp[B,Y]
def c5h{l:af_}(h:s∉l.map b_):cutT [s] l=l:=by
 unfold cutT
 conv=>rhs;rw[<-QV l]
 apply KQ;intro q hq;have:q.1≠s:=λz=>h jz_;simp[this]
def a0m(w:By W)(hi:gT_)(g:b!):By nU!:=by
 refine rE w hi (by rw[pE];exact w.snd i hi) ed! nT_
 .show"!:";exact w.sg i hi q0 h0
 .show"!:";exact(w.su i hi y hy q0 h0 q' a9 e).symm
def rG(i:D)(l l':af_):setT (setT W i l) i l'=setT W i l':=by unfold setT;congr 1;funext x;dsimp only;split<;>rfl
def uI(i:D)(l:af_):(setT W i l).txt i=l:=by simp[setT]
def c4m{ks:MK}{k3:h_}{e6:Nat}(hA:gX_)(w:By W)(hi:gT_)(hs:s∈(bn_).map b_):
  Rt t (Bd M a6 nV!) o rl nV_ ff! a1 a2 a3 a4 a5 a6 k1 k2 k3 k4 k5 nU_/\Fr M rl (Bd M a6 nV!) rl:=by
 have ar:∀b,rl b≠.hid->Bd M a6 nV! b=M b:=λb hb=>mup_ne λz=>hb (by rw[z];exact hA.r6);refine⟨?_,λb hb L=>vL_⟩;have up:∀{x:Nat},x<=h1->x<=h1+1:=λh=>RK h;refine{hA with ob:=?_,d1:=?_,d2:=?_,d3:=?_,d4:=?_,d5:=?_,d6:=jJ_,row:=?_,txt:=?_,num:=?_,live:=?_,wr:=?_,hi:=?_,l1:=up hA.l1,l2:=up hA.l2,l3:=up hA.l3,l4:=up hA.l4,l5:=up hA.l5,l6:=JD d4_ (RP hA.l6),lr:=up hA.lr,lt:=?_,hk:=?_}
 .rw[ar o P_];exact hA.ob
 .rw[ar a1 bV!];exact hA.d1
 .rw[ar a2 aD!];exact hA.d2
 .rw[ar a3 a0_];exact hA.d3
 .rw[ar a4 a1!];exact hA.d4
 .rw[ar a5 aQ!];exact hA.d5
 .show"!u"
 .intro x O;obtain⟨r,f,p',g1,g2,g3,g4,g5⟩:=hA.txt x O;refine⟨r,f,p',g1,?_,g3,g4,g5⟩;have e:((nV_).txt x).map b_=(aK_).map b_:=by
   show vT!;split
   .rename_i z;rw[z,pE]
   .rfl
  rw[e];exact g2.keep (ar _ dk!) (ar _ ec!) (ar _ ec_)
 .intro x O;obtain⟨q,g1,g2,g3⟩:=hA.num x O;exact⟨q,g1,(ar q dk!).trans g2,g3⟩
 .show∀x∈W.its,∀q∈jK!,kget k5 q.1=some q.2.1;intro x O;split
  .intro q hq;show"!:";exact hA.wr i hi q0 h0
  .exact hA.wr x O
 .show∀x∈W.its,∀q∈jK!,(kget nU_ q.1).isSome=!q.2.2;intro x O;split
  .intro q hq;show"!:";show"#+";by_cases c:q0.1=s
   .rw[c,dL];simp
   .rw[dU (HY c),hA.hi i hi q0 h0];simp[c]
  .rename_i c;intro q hq;have:s≠q.1:=λz=>by
    obtain⟨q0,h0,e0⟩:=IP.mp hs;exact c (w.su x O i hi q hq q0 h0 (by rw[<-z,e0]))
   rw[dU this];exact hA.hi x O q hq
 .intro s' bx;have nm:∀x,((nV_).txt x).map b_=(aK_).map b_:=λx=>by
   show vT!;split
   .rename_i z;rw[z,pE]
   .rfl
  by_cases c:s=s'
  .subst c;exact⟨i,hi,by rw[nm];exact hs⟩
  .rw[dU c]at bx;obtain⟨x,B,Y⟩:=hA.hk s' bx;exact⟨x,B,by rw[nm];exact Y⟩
 .show∀x∈W.its,(jK!).length<=h1+1;intro x O;split
  .rw[show(vR!).length=(bn_).length by unfold cutT;simp];exact up (hA.lt i hi)
  .exact up jI_
 .intro b hb;by_cases c:b=a6
  .rw[c,mup_same];simp
  .rw[mup_ne c];show"#$"
abbrev CT(t:Ar):WS:=(Ah r1!
 r2!)
def xQ{x y z m:Int}(hi:gT_)(w:By W):∀(js:z!) (M:Mh) (g:b!) (h1:Nat) (tf zr:ah!) (R:j_),h1+js.length<4000->Ce t M o rl nU! h1->
  (∀M' ρ,Ce t M' o rl (setT W i (cutT (g++js.map λj=>.tup jK_) bn_)) (h1+js.length)->Fr M rl M' rl->R aM_ M')->
  Hg c5_ ab! (CT t) (js.map .int) [F_,M!,some ee!,some bF!,tf,zr] M R
 |[],M,g,h1,tf,zr,R,hB,h,hR=>⟨trivial,hR M _ kd! .refl⟩
 |j::js,M,g,h1,tf,zr,R,hB,h,hR=>by
  refine aL!;have w2:=a0m w hi g;obtain⟨ki,cn⟩:=(g3!).key;have iu:=h;obtain⟨a1,a2,a3,a4,a5,a6,k1,k2,k3,k4,k5,k6,hA⟩:=iu;obtain⟨r,f,p,g1,g2,g3,g4,g5⟩:=hA.txt i hi;obtain⟨e3,h3⟩:=hA.d3;obtain⟨e6,h6⟩:=hA.d6;have l6:k6.length<big:=by have:=hA.l6;unfold big;simp at hB;omega
  simp only[IH]at hB hR;have ud:Al jM_ (.tup [dP!])=some g3_:=by simp[Al,big]
  have ue:Bl ee! none (some 2)=some jM_:=by simp[Bl,Di,HT.sIx]
  simp[Dx,Bx,Ah,An,wl,f2,Eo,Aa,Ax,At,fC,Az,Ac,Ag,ue,ud,Aq,wT,Ba,DL.w2,Av,Gr,hA.ob,oF3,Br,h3,cn,g1,Dg,g2.ob,Ab,Af,rM,-List.lookup_eq_none_iff];refine a7e g2 gU_ ?_;rw[uI]at g2;by_cases c:D.tup jK_∈((nU!).txt i).map b_
  .simp only[c,PY,JT];obtain⟨q1,q2⟩:=c4m (ks:=none) (e6:=Gp k6 g3_ e6) hA w2 hi c;rw[rG,uI,a7w]at q1;have:=xQ (z:=z) (m:=m) hi w js _ nX! ff! (some dl!) (some g3_) R a! vU_ (λM' ρ h' f'=>hR M' ρ vV! (q2.trans f'));simpa[Bw,wl,Av,Gr,Dx,Aa,fC,hA.ob,oF6,Lf,h6,show Dc g3_=some _ from rfl,l6]using this
  .simp only[c,QI];have q1:Ce t M o rl (setT W i (cutT nX! bn_)) ff!:=by
    rw[<-a7w,c5h (by rw[uI]at c;exact c)];exact h.mono (OC h1)
   have:=xQ (z:=z) (m:=m) hi w js M nX! ff! (some dl!) (some g3_) R a! q1 (λM' ρ h' f'=>hR M' ρ vV! f');simpa[Bq]using this
def c9h{x y z m:Int}(h:aC_)(w:By W)(cn:fe_)(hB:g4!)(z0:0<=z)(m1:1<=m)(Z':z+m<=16)
  (hR:∀M',Ce t M' o rl (open Classical in if i∈W.its then setT W i (cutT vW_ bn_)else W) bo_->Fr M rl M' rl->R .non M'):
  Js t [bc!,i,.tup jL_,ef_] M R:=by
 have h':=h;show"!3";simp only[Nd,Ah,Aq,Lj,wT,Ba,wl,Ab,Af,Aa];simp[nQ_];show"!f"
 .simp only[c1,JT]at hR;have L:Tb dO! r0_ [F_,M!,some ee!,some bF!,none,none]=some ((vX_).map D.int):=by
   have e1:Ai ee! bf_=some fi!:=rfl;have e2:(z+m - z).toNat=m.toNat:=by congr 1;omega
   have b:-1000<=z/\z<=100000/\-1000<=z+m/\z+m<=100000:=by omega
   simp[Tb,f2,Aa,fC,e1,Al,b,e2,Su,Function.comp]
  have:=xQ (t:=t) (o:=o) (rl:=rl) (x:=x) (y:=y) (z:=z) (m:=m) c1 w vX_ M [] h1 none none g0_ bN! (by rw[c1i,rH];exact h) (λM' ρ Y f2=>hR M' (by
   simp only[KZ,JR,IF,MM]at Y;exact Y.mono a!) f2)
  simp only[c1,PY,LI,JA,JM,Bq,Dd,Jg,Dx,L];show"#D"
 .simp only[c1,JM]at hR;have:=hR M (h.mono a!) .refl;simpa[c1,Qc]using this
def EB(cv:D)(U l:af_):Prop:=(U=[]/\cv∉l.map b_)\/∃u' q,U=u'++[q]/\q.1=cv/\cv∉u'.map b_
def EB.names(h:EB cv U g5_):Pv s cv ((g5_).map b_)=(vY_).map b_:=by
 obtain⟨rfl,h⟩|⟨u',q,rfl,e,h⟩:=h
 .unfold Pv;rw[HR h];simp
 .unfold Pv;rw[IA g6!];simp only[IW,HZ,NE,JL,MX,KZ];rw[e,kX h]
def b6b{M1:Mh}{e5:Nat}{k3:h_}(hA:gX_)(w:By W)(hi:gT_)
  (hl:W.txt i=U++v)(hb:EB cv U g5_)(hs:Pw s)(hf:∀x∈W.its,s∉(aK_).map b_)(g3:rl r=.tO i)(g4:rl f=.tF i)(g5:rl p=.tP i)(g1:kget k3 i=some ba_)
  (L:Ek t M1 r f p (Pv s cv ((bn_).map b_)))(fr:∀b,b≠f->b≠p->M1 b=M b):
  Rt t v0_ o rl nY_ ff! a1 a2 a3 a4 a5 a6 k1 k2 k3 k4 (As k5 s c) k6/\Fr M rl v0_ rl/\By nY_:=by
 have ar:∀b,rl b≠.writ->rl b≠.tF i->rl b≠.tP i->Bd M1 a5 nY! b=M b:=λb B Y h3=>by
  rw[mup_ne λz=>B v0!];exact fr b (λz=>Y (by rw[z];exact g4)) (λz=>h3 (by rw[z];exact g5))
 have up:∀{x:Nat},x<=h1->x<=h1+1:=λh=>RK h;have n5:∀b,rl b≠.writ->Bd M1 a5 nY! b=M1 b:=λb B=>mup_ne λz=>B v0!;have tx:∀x,(nY_).txt x=if x=i then U++(s,c,true)::v else W.txt x:=λx=>rfl
 have si:s∉(g5_).map b_:=by rw[<-hl];exact hf i hi
 refine⟨?_,λb df ql=>⟨ar b nZ_ nZ_ nZ_,ql⟩,?_⟩
 .refine{hA with ob:=?_,d1:=?_,d2:=?_,d3:=?_,d4:=?_,d5:=jJ_,d6:=?_,row:=?_,txt:=?_,num:=?_,live:=?_,wr:=?_,hi:=?_,hk:=?_,l1:=up hA.l1,l2:=up hA.l2,l3:=up hA.l3,l4:=up hA.l4,l5:=JD d4_ (RP hA.l5),l6:=up hA.l6,lr:=up hA.lr,lt:=?_}
  .rw[ar o P_ P_ P_];exact hA.ob
  .rw[ar a1 bV! bV! bV!];exact hA.d1
  .rw[ar a2 aD! aD! aD!];exact hA.d2
  .rw[ar a3 a0_ a0_ a0_];exact hA.d3
  .rw[ar a4 a1! a1! a1!];exact hA.d4
  .rw[ar a6 aD_ aD_ aD_];exact hA.d6
  .intro x O;obtain⟨r',f',p',q1,q2,q3,q4,q5⟩:=hA.row x O;exact⟨r',f',p',q1,q2.keep v2! (ar _ g6_ g6_ g6_) (ar _ g7! g7! g7!),q3,q4,q5⟩
  .intro x O;by_cases z:x=i
   .subst z;refine v2_;rw[tx,j!,<-hb.names,<-hl];exact L.keep (n5 _ dk!) (n5 _ ec!) (n5 _ ec_)
   .obtain⟨r',f',p',q1,q2,q3,q4,q5⟩:=hA.txt x O;refine⟨r',f',p',q1,?_,q3,q4,q5⟩;rw[tx,HR z];exact q2.keep v2! (ar _ g6_ (by rw[q4];simpa using z) g6_) (ar _ g7! g7! (by rw[q5];simpa using z))
  .intro x O;obtain⟨q,q1,q2,q3⟩:=hA.num x O;exact⟨q,q1,(ar q fj! fj! fj!).trans q2,q3⟩
  .intro x O q hq;rw[tx]at hq;by_cases z:x=i
   .subst z;rw[j!]at hq;obtain q0|q0:=HU.mp hq
    .rw[dU λy=>si (by rw[y];exact IE (IS _ q0))];exact hA.wr x hi q jP!
    .obtain rfl|q0:=HQ.mp q0
     .rw[dL]
     .rw[dU λy=>si (by rw[y];exact IE (II _ q0))];exact hA.wr x hi q jP_
   .rw[HR z]at hq;rw[dU λy=>hf x O (by rw[y];exact IE hq)];exact hA.wr x O q hq
  .intro x O q hq;rw[tx]at hq;by_cases z:x=i
   .subst z;rw[j!]at hq;obtain q0|q0:=HU.mp hq
    .exact hA.hi x hi q jP!
    .obtain rfl|q0:=HQ.mp q0
     .cases q:kget k6 s with
      |none=>simp[q]
      |some y=>
       obtain⟨x',B,Y⟩:=hA.hk s cg!;exact absurd Y (hf x' B)
     .exact hA.hi x hi q jP_
   .rw[HR z]at hq;exact hA.hi x O q hq
  .intro s' bx;obtain⟨x,B,Y⟩:=hA.hk s' bx;refine⟨x,B,?_⟩;rw[tx];by_cases z:x=i
   .subst z;rw[j!];rw[hl]at Y;simp only[IW,HZ,HU,HQ]at Y ⊢;obtain Y|Y:=Y
    .exact .inl Y
    .exact .inr (.inr Y)
   .rw[HR z];exact Y
  .intro x O;rw[tx];by_cases z:x=i
   .subst z;rw[j!];have:=hA.lt x hi;rw[hl]at this;simp at this ⊢;omega
   .rw[HR z];exact up jI_
  .intro b df;by_cases z:b=a5
   .rw[z,mup_same];simp
   .rw[jQ_];by_cases z1:b=f
    .rw[z1];exact L.live.2.1
    .by_cases z2:b=p
     .rw[z2];exact L.live.2.2
     .rw[fr b z1 z2];exact hA.live b df
 .refine rE w hi ?_ ed! nT_
  .have:=w.snd i hi;rw[hl]at this;simp only[IW,HZ]at this si ⊢;rw[JB]at this ⊢;rw[HU,OX]at si;refine⟨this.1,IN.mpr ⟨si.2,this.2.1⟩,λa ha b df=>?_⟩;obtain rfl|df:=HQ.mp df
   .exact λz=>si.1 jn_
   .exact this.2.2 a ha b df
  .obtain q0|q0:=HU.mp hq
   .exact w.sg i hi q jP!
   .obtain rfl|q0:=HQ.mp q0
    .exact hs
    .exact w.sg i hi q jP_
  .obtain q0|q0:=HU.mp hq
   .exact(w.su i hi y hy q jP! q' a9 e).symm
   .obtain rfl|q0:=HQ.mp q0
    .have e':s=q'.1:=e;exact absurd (by rw[e'];exact IE a9) (hf y hy)
    .exact(w.su i hi y hy q jP_ q' a9 e).symm
def FT(t:Ar):WS:=(Ah mh_
 (Ah rY!
 (Ah rZ!
 (An 5 eQ_))))
nonrec def sgn(h n:Int)(q:Nat×Nat):D×D×Bool:=(.tup [aR!,aP_,Am!],.str ⟨#[q.1]⟩,true)
nonrec def eN(q:Nat×Nat):D:=.tup Am_
def uY{h n:Int}:∀(cs:m_) (k0:Nat) (M:Mh) (W:OW) (h1:Nat) (U v:af_) (cv:D) (ka:MK) (zt zu qm:ah!) (R:j_),h1+cG!<4000->Ce t M o rl W h1->By W->i∈W.its->W.txt i=U++v->EB cv U g5_->Dc cv=some ka->
  (∀x∈W.its,∀k':Nat,k0<=k'->D.tup v5!∉(aK_).map b_)->
  (∀M' ρ,Ce t M' o rl v5_ (h1+cG!)->By v5_->Fr M rl M' rl->R aM_ M')->
  Hg (Wh 6 7) ab! (FT t) ((n1_).map eN) [F_,bp_,M!,eh!,some tx,some cv,zt,zu,qm] M R
 |[],k0,M,W,h1,U,v,cv,ka,zt,zu,qm,R,hB,hO,w,hi,hl,hb,hk,hf,hR=>by
  refine⟨trivial,hR M _ ?_ ?_ .refl⟩
  .simp only[QJ,NE,JC,MN,Nat.add_zero];rw[<-hl,rH];exact hO
  .simp only[QJ,NE,JC];rw[<-hl,rH];exact w
 |c::cs,k0,M,W,h1,U,v,cv,ka,zt,zu,qm,R,hB,hO,w,hi,hl,hb,hk,hf,hR=>by
  rw[OA,HZ];refine aL!;obtain⟨ki,cn⟩:=(g3!).key;obtain⟨a1,a2,a3,a4,a5,a6,k1,k2,k3,k4,k5,k6,hA⟩:=hO;obtain⟨r,f,p,g1,g2,g3,g4,g5⟩:=hA.txt i hi;obtain⟨e3,h3⟩:=hA.d3;obtain⟨e5,h5⟩:=hA.d5;simp only[IH]at hB hR;have l5:k5.length<big:=by have:=hA.l5;unfold big;omega
  have hs:Pw cl_:=v6!;have zw:∀x∈W.its,D.tup jR!∉(aK_).map b_:=λx O=>hf x O k0 x_;have ud:Al ah_ (.tup [.int (k0:Nat)])=some cl_:=by simp[Al,big]
  have hm:Dg t.B5 "put_behind" M ba_:=by simp only[Dg,g2.ob,rM.1,and_self]
  have O:∀R',w2 Br eP_ D_ n2_ M R'=R' ba_ M:=by
   intro R';simp[w2,wl,Av,Gr,hA.ob,oF3,Br,h3,cn,g1,Dx,Aa]
  show FT t n3! M _;show Ah mh_ _ n3! M _;have e8:f2 Al u_ (Az mh!) n3!=some cl_:=by
   simp[f2,Aa,Az,Ac,Ag,ud]
  simp only[Ah,An,wl,e8,List.set_cons_succ,List.set_cons_zero,Bu,Ba,O];refine⟨hm,rfl,?_⟩;refine jF g2 gU_ hk hs.nn (zw i hi) (by have:=hA.lt i hi;simp;omega) (b1f w hi) λM1 L fr=>?_;have h5':M1 a5=some (.dct k5 e5):=by
   rw[fr a5 (λz=>by have:=hA.r5;rw[z,g4]at this;cases this) (λz=>by have:=hA.r5;rw[z,g5]at this;cases this)];exact h5
  have ob':M1 o=some vz_:=by
   rw[fr o (λz=>by have:=hA.ro;rw[z,g4]at this;cases this) (λz=>by have:=hA.ro;rw[z,g5]at this;cases this)];exact hA.ob
  obtain⟨q1,q2,q3⟩:=b6b (c:=gJ_) (e5:=Gp k5 cl_ e5) hA w hi hl hb hs zw g3 g4 g5 g1 L fr;have hU:U++v7_::v=(U++[v7_])++v:=by simp
  have:=uY (b:=b) (tx:=tx) (h:=h) (n:=n) cs (k0+1) _ v8! ff! (U++[n3_]) v cl_ _ (some v6_) (some gJ!) (some cl_) R
   (a!) vU_ q3 hi (by rw[uI,hU]) (.inr ⟨U,_,rfl,rfl,λz=>zw i hi v8_⟩) gU_
   (λx O k' cr z=>by
    have tx:(v8!).txt x=if x=i then U++n3_::v else W.txt x:=rfl
    rw[tx]at z;by_cases y:x=i
    .subst y;rw[j!]at z;simp only[IW,HZ,HU,HQ]at z;obtain z|z|z:=z
     .exact hf x hi k' a! v8_
     .simp at z;omega
     .exact hf x hi k' a! (by rw[hl,IW];exact II _ z)
    .rw[HR y]at z;exact hf x O k' a! z)
   (λM' ρ B Y f'=>hR M' ρ (by
    rw[rG]at B;rw[show h1+(cs.length+1)=h1+1+cs.length by omega,OA];simpa[sgn]using B) (by
    rw[rG]at Y;rw[OA];simpa[sgn]using Y) (q2.trans f'))
  have hp:∀R',Bw rY_ eQ_ (wl bh_) n2_ M1 R'=R' (.nx n2_) (Bd M1 a5 (.dct (As k5 cl_ gJ!) (Gp k5 cl_ e5))):=by
   intro R';simp[Bw,wl,Av,Gr,Dx,Aa,fC,ob',oF5,Lf,h5',show Dc cl_=some _ from rfl,l5]
  simp only[hp];show"#D"
def b6d{h n:Int}{s:Str}(hO:aC_)(w:By W)(cn:fe_)(zx:Dc b=some kb)(hB:g4!)(hs:jT_)
  (hf:∀x∈W.its,∀k':Nat,D.tup v5!∉(aK_).map b_)
  (hR:∀M',Ce t M' o rl wb_ bo_->By wb_->Fr M rl M' rl->R .non M'):
  Ib t [bc!,g9_,i,b,dn!] M R:=by
 have h':=hO;show"!3";simp only[Kx,Ah,Aq,Lj,wT,Ba,wl,Ab,Af,Aa];simp[nQ_];refine hW hO cn ?_;by_cases c1:i∈W.its
 .simp only[c1,JT]at hR;obtain⟨U,v,e1,e2,e3⟩:=rB b ei! bn_;have hl:ha!<=16:=by simpa[Str.length]using hs
  have hi:Tc H_ [F_,bp_,M!,eh!,some aE_,eh!,none,none,none]=some (s.cps.toList.zipIdx.map eN):=by
   simp[Tc,Aa,eN]
  have:=uY (t:=t) (o:=o) (rl:=rl) (b:=b) (tx:=dn!) (h:=h) (n:=n) s.cps.toList 0 M W h1 U v b kb none none none g0_ a! hO w c1 e1 (by rw[<-e1];exact e3) zx (λx O k' _=>hf x O k')
   (λM' ρ B Y f'=>hR M' (by rw[<-e2]at B;exact B.mono a!) (by rw[<-e2]at Y;exact Y) f')
  simp only[c1,PY,LI,JA,JM,Bq,An,wl,Dd,Jg,Dx];simp only[Aa,List.getElem?_cons_zero,List.getElem?_cons_succ,Option.join_some,List.set_cons_succ,List.set_cons_zero];simp only[hi];show"#D"
 .simp only[c1,JM]at hR;have:=hR M n4_ w .refl;simpa[c1,Qc]using this
def aW{N:Mh}(hb:N b≠none)(hc:N c=none):b≠c:=λz=>hb (by rw[z];exact hc)
def c1n(h:∀i,(i,x)∉rows):chl rows x=[]:=by
 cases e:chl rows x with
 |nil=>rfl
 |cons a l=>exact absurd (gU.mp (by rw[e];simp:a∈chl rows x)) (h a)
def Ek.rne(h:d4!):r≠f/\r≠p:=by
 obtain⟨kf,ef,kp,ep,hf,hp,K⟩:=h.dc;refine⟨cL!,cL!⟩
 .have:=h.ob;rw[z,hf]at this;cases this
 .have:=h.ob;rw[z,hp]at this;cases this
def b7j{f1 p1 f2 p2:xz!}{k3:h_}{M2 M3 M5:Mh}{e1 e2 e3 e4:Nat}(hA:gX_)(w:By W)(hn:nF!)(ht:Ik n)(hp:Ft W pl)
  (hg:Rl W.rows n pl b rows')(g1:kget k2 pl=some ba_)(g3:rl r=.rO pl)(g4:rl f=.rF pl)(g5:rl p=.rP pl)
  (R2:Ek t M2 r f p (Pv n b (chl W.rows pl)))(K2:∀c,c≠f->c≠p->M2 c=Bd M a1 (.dct n5_ e1) c)
  (z1:M2 r1=none)(z2:M2 f1=none)(z3:M2 p1=none)(R3:Ek t M3 r1 f1 p1 [])(K3:∀c,c≠r1->c≠f1->c≠p1->M3 c=M2 c)
  (y1:Bd M3 a2 hb_ r2=none)(y2:Bd M3 a2 hb_ f2=none)(y3:Bd M3 a2 hb_ p2=none)(R5:Ek t M5 r2 f2 p2 [])(K5:∀c,c≠r2->c≠f2->c≠p2->M5 c=Bd M3 a2 hb_ c)
  (x1:Bd M5 a3 n7_ q=none):
  ∃ae,Rt t wi! o ae bb_ bo_ a1 a2 a3 a4 a5 a6 n5_ n6! n7! (As k4 n bU_) k5 k6/\
   Fr M rl wi! ae:=by
 have a8:∀{c d:xz!},rl c≠rl d->c≠d:=λh z=>h hc!;have lv:∀c,rl c≠.oth->M c≠none:=hA.live;have A1:M a1≠none:=lv _ bV!;have A2:M a2≠none:=lv _ aD!;have A3:M a3≠none:=lv _ a0_;have A4:M a4≠none:=lv _ a1!;have AF:M f≠none:=lv _ ec!;have AP:M p≠none:=lv _ ec_;have s2:∀c,M c≠none->M2 c≠none:=λc hc=>by
  by_cases c1:c=f
  .rw[c1];exact R2.live.2.1
  .by_cases c2:c=p
   .rw[c2];exact R2.live.2.2
   .rw[K2 c c1 c2];by_cases c3:c=a1
    .rw[c3,mup_same];simp
    .rw[n9_];exact hc
 have iy:∀c,M c≠none->c≠r1/\c≠f1/\c≠p1:=λc hc=>⟨aW n9! z1,aW n9! z2,aW n9! z3⟩;have s3:∀c,M c≠none->M3 c≠none:=λc hc=>by rw[oa!];exact s2 c hc
 have ww:∀c,M3 c≠none->Bd M3 a2 hb_ c≠none:=λc hc=>by
  by_cases c3:c=a2
  .rw[c3,mup_same];simp
  .rw[n9_];exact hc
 have gn:∀c,M3 c≠none->c≠r2/\c≠f2/\c≠p2:=λc hc=>⟨aW ob! y1,aW ob! y2,aW ob! y3⟩;have gc:∀c,M3 c≠none->M5 c≠none:=λc hc=>by rw[wj_];exact ww c hc
 have VQ:∀c,M5 c≠none->Bd M5 a3 n7_ c≠none:=λc hc=>by
  by_cases c3:c=a3
  .rw[c3,mup_same];simp
  .rw[n9_];exact hc
 have nq:∀c,M5 c≠none->c≠q:=λc hc=>aW (VQ c hc) x1;have a1f:a1≠f:=a8 (by rw[hA.r1,g4];simp);have a1p:a1≠p:=a8 (by rw[hA.r1,g5];simp);have fin:∀c,M c≠none->c≠a1->c≠f->c≠p->c≠a2->c≠a3->c≠a4->Bd ej! a4 ej_ c=M c:=λc hc B Y h3 h4 h5 h6=>by
  rw[hc_,wk_,jW_,wl_,oc_,oa!,K2 c Y h3,ci!]
 have uf:∀c,M c≠none->c≠a2->c≠a3->c≠a4->Bd ej! a4 ej_ c=M2 c:=λc hc h4 h5 h6=>by
  rw[hc_,wk_,jW_,wl_,oc_,oa!]
 have VR:∀c,M3 c≠none->c≠a2->c≠a3->c≠a4->Bd ej! a4 ej_ c=M3 c:=λc hc h4 h5 h6=>by
  rw[hc_,mup_ne (nq c (gc c hc)),jW_,wj_,oc_]
 have wx:∀c,M5 c≠none->c≠a3->c≠a4->Bd ej! a4 ej_ c=M5 c:=λc hc h5 h6=>by
  rw[hc_,wm_,jW_]
 generalize hM8:Bd ej! a4 ej_=M8 at fin uf VR wx;have VS:=R3.rne;have VT:=R5.rne;obtain⟨v1,v2,v3⟩:=R3.live;obtain⟨v4,v5,v6⟩:=R5.live
 let ae:Addr->Pc:=λc=>if c=r1 then .rO n else if c=f1 then .rF n else if c=p1 then .rP n else if c=r2 then .tO n else if c=f2 then .tF n else if c=p2 then .tP n else if c=q then .nm n else rl c
 have ao:∀c,M c≠none->ae c=rl c:=λc hc=>by
  have B:=iy c hc;have Y:=gn c jW!;have h3:=nq c (gc c jW!);show wn!=_;rw[HR B.1,HR B.2.1,HR B.2.2,HR Y.1,HR Y.2.1,HR Y.2.2,HR h3]
 have q1:ae r1=.rO n:=IA rfl;have q2:ae f1=.rF n:=by show(if f1=r1 then _ else _)=_;rw[HR (HY VS.1),j!]
 have q3:ae p1=.rP n:=by show(if p1=r1 then _ else _)=_;rw[HR (HY VS.2),HR (HY R3.ne),j!]
 have w1:∀c,M3 c≠none->c≠r2/\c≠f2/\c≠p2:=gn;have q4:ae r2=.tO n:=by show(if r2=r1 then _ else _)=_;rw[HR (HY (od_).1),HR (HY (oe!).1),HR (HY (oe_).1),j!]
 have q5:ae f2=.tF n:=by show(if f2=r1 then _ else _)=_;rw[HR (HY (od_).2.1),HR (HY (oe!).2.1),HR (HY (oe_).2.1),HR (HY VT.1),j!]
 have q6:ae p2=.tP n:=by show(if p2=r1 then _ else _)=_;rw[HR (HY (od_).2.2),HR (HY (oe!).2.2),HR (HY (oe_).2.2),HR (HY VT.2),HR (HY R5.ne),j!]
 have q7:ae q=.nm n:=by
  show(if q=r1 then _ else _)=_;rw[HR (HY (nq _ (gc _ v1))),HR (HY (nq _ (gc _ v2))),HR (HY (nq _ (gc _ v3))),HR (HY (nq _ v4)),HR (HY (nq _ v5)),HR (HY (nq _ v6)),j!]
 have na:∀c,M c≠none->wr_:=iy;have im:∀x,x∈(bb_).its↔x∈W.its\/x=n:=λx=>by simp[Gi]
 have ju:wo W.rows n=W.rows:=by
  show"!`";exact λz=>hn ((w.ri n).mp jz_)
 have nP:¬Ft W n:=λz=>z.elim hn λz=>z.elim ht.nn.2.1 ht.nn.2.2;have VU:∀x,Ft bb_ x↔Ft W x\/x=n:=λx=>by unfold Ft;rw[im];constructor<;>(intro z;rcases z with(z|z)|z<;>simp[z])
 have up:∀{x:Nat},x<=h1->x<=h1+20:=λh=>by omega
 have up1:∀{l:h_} {d v:D},al_<=h1->(e6_).length<=h1+20:=λh=>JD d4_ a!;have c1:∀c,rl c≠.oth->rl c≠.par->rl c≠.rows->rl c≠.texts->rl c≠.nums->rl c≠.rF pl->rl c≠.rP pl->M8 c=M c:=λc h0 B Y h3 h4 h5 h6=>
  fin c (lv c h0) (λz=>B og!) (λz=>h5 og_) (λz=>h6 oh!) (λz=>Y (by rw[z,hA.r2])) (λz=>h3 (by rw[z,hA.r3])) (λz=>h4 (by rw[z,hA.r4]))
 refine⟨ae,?_,λc hc L=>⟨fin c hc (a8 (by rw[L,hA.r1];simp)) (a8 (by rw[L,g4];simp)) (a8 (by rw[L,g5];simp)) (a8 (by rw[L,hA.r2];simp)) (a8 (by rw[L,hA.r3];simp)) (a8 (by rw[L,hA.r4];simp)),by rw[ao c hc];exact L⟩⟩;have e8:∀c,M8 c=Bd ej! a4 ej_ c:=λc=>by rw[hM8]
 have x1':=x1;refine
  {ob:=(c1 o P_ P_ P_ P_ P_ P_ P_).trans hA.ob
   d1:=⟨e1,?d1⟩,d2:=⟨e2,?d2⟩,d3:=⟨e3,?d3⟩,d4:=⟨e4,?d4⟩,d5:=?d5,d6:=?d6
   ro:=(ao o (lv o P_)).trans hA.ro,r1:=(ao a1 A1).trans hA.r1,r2:=(ao a2 A2).trans hA.r2,r3:=(ao a3 A3).trans hA.r3,r4:=(ao a4 A4).trans hA.r4
   r5:=(ao a5 (lv _ aQ!)).trans hA.r5,r6:=(ao a6 (lv _ aD_)).trans hA.r6
   p0:=⟨by rw[dU ht.nn.2.1];exact hA.p0.1,by rw[dU ht.nn.2.2];exact hA.p0.2⟩
   pr:=?pr,row:=?row,rown:=?rown,txt:=?txt,txtn:=?txtn,num:=?num,wr:=?wr,hi:=?hi,hk:=?hk
   l1:=up1 hA.l1,l2:=up1 hA.l2,l3:=up1 hA.l3,l4:=up1 hA.l4,l5:=up hA.l5,l6:=up hA.l6,lr:=?lr,lt:=?lt,live:=?live}
 case d1=>rw[uf a1 A1 (a8 (by rw[hA.r1,hA.r2];simp)) (a8 (by rw[hA.r1,hA.r3];simp)) (a8 (by rw[hA.r1,hA.r4];simp)),K2 a1 a1f a1p,mup_same]
 case d2=>
  have h3:=s3 a2 A2;rw[e8,mup_ne (a8 (by rw[hA.r2,hA.r4];simp)),mup_ne (nq a2 (gc a2 h3)),mup_ne (a8 (by rw[hA.r2,hA.r3];simp)),K5 a2 (oi!).1 (oi!).2.1 (oi!).2.2,mup_same]
 case d3=>rw[e8,mup_ne (a8 (by rw[hA.r3,hA.r4];simp)),mup_ne (nq a3 (gc a3 (s3 a3 A3))),mup_same]
 case d4=>rw[e8,mup_same]
 case d5=>rw[c1 a5 aQ! aQ! aQ! aQ! aQ! aQ! aQ!];exact hA.d5
 case d6=>rw[c1 a6 aD_ aD_ aD_ aD_ aD_ aD_ aD_];exact hA.d6
 case pr=>
  intro i p' hm;obtain z|z:=hg.mem.mp hm
  .cases z;rw[dL]
  .rw[ju]at z;rw[dU λy=>sD w hn p' wu_];exact hA.pr i p' z
 case row=>
  intro x O;obtain O|rfl:=(VU x).mp O
  .obtain⟨r',f',p',u1,u2,u3,u4,u5⟩:=hA.row x O;have xn:n≠x:=λz=>nP fk_;have L1:=lv r' am_;have L2:=lv f' aL_;have L3:=lv p' aM!;by_cases wy:pl=x
   .subst wy;rw[g1]at u1;cases u1;refine⟨r,f,p,by rw[dU xn];exact g1,?_,(ao r L1).trans g3,(ao f AF).trans g4,(ao p AP).trans g5⟩;show Ek t M8 r f p (chl rows' pl);rw[wv_,ju];exact R2.keep (uf r L1 (a8 (by rw[g3,hA.r2];simp)) (a8 (by rw[g3,hA.r3];simp)) (a8 (by rw[g3,hA.r4];simp))) (uf f AF (a8 (by rw[g4,hA.r2];simp)) (a8 (by rw[g4,hA.r3];simp)) (a8 (by rw[g4,hA.r4];simp))) (uf p AP (a8 (by rw[g5,hA.r2];simp)) (a8 (by rw[g5,hA.r3];simp)) (a8 (by rw[g5,hA.r4];simp)))
   .refine⟨r',f',p',oj!,?_,(ao r' L1).trans u3,(ao f' L2).trans u4,(ao p' L3).trans u5⟩;show Ek t M8 r' f' p' (chl rows' x);rw[hg.chl_ne wy,ju];exact u2.keep ww_ (c1 f' aL_ aL_ aL_ aL_ aL_ (by rw[u4];simpa using HY wy) aL_) (c1 p' aM! aM! aM! aM! aM! aM! (by rw[u5];simpa using HY wy))
  .refine⟨r1,f1,p1,dL _ _ _,?_,q1,q2,q3⟩;have np:pl≠x:=λz=>nP (z▸hp);show Ek t M8 r1 f1 p1 (chl rows' x);rw[hg.chl_ne np,ju,c1n λi z=>nP (w.rp _ _ z)];have e:∀c,M3 c≠none->(∀d,M d≠none->d≠c)->M8 c=M3 c:=λc B Y=>VR c B (HY (Y a2 A2)) (HY (Y a3 A3)) (HY (Y a4 A4));exact R3.keep (e r1 v1 λd hd=>(ol!).1) (e f1 v2 λd hd=>(ol!).2.1) (e p1 v3 λd hd=>(ol!).2.2)
 case rown=>
  intro x O;rw[VU,OX]at O;rw[dU (HY O.2)];exact hA.rown x O.1
 case txt=>
  intro x O;obtain O|rfl:=(cB_).mp O
  .obtain⟨r',f',p',u1,u2,u3,u4,u5⟩:=hA.txt x O;have xn:n≠x:=λz=>hn fk_;refine⟨r',f',p',oj!,?_,(ao r' (lv r' am_)).trans u3,(ao f' (lv f' aL_)).trans u4,(ao p' (lv p' aM!)).trans u5⟩;have e:(bb_).txt x=W.txt x:=by show fl_=_;rw[HR (HY xn)]
   rw[e];exact u2.keep ww_ (c1 f' aL_ aL_ aL_ aL_ aL_ aL_ aL_) (c1 p' aM! aM! aM! aM! aM! aM! aM!)
  .refine⟨r2,f2,p2,dL _ _ _,?_,q4,q5,q6⟩;have e:(hd_).txt x=[]:=by show he!=_;rw[j!]
   rw[e];have o3:=w1 a3 (s3 a3 A3);have o4:=w1 a4 (s3 a4 A4);exact R5.keep (wx r2 v4 (HY o3.1) (HY o4.1)) (wx f2 v5 (HY o3.2.1) (HY o4.2.1)) (wx p2 v6 (HY o3.2.2) (HY o4.2.2))
 case txtn=>
  intro x O;rw[im,OX]at O;rw[dU (HY O.2)];exact hA.txtn x O.1
 case num=>
  intro x O;obtain O|rfl:=(cB_).mp O
  .obtain⟨q',u1,u2,u3⟩:=hA.num x O;have xn:n≠x:=λz=>hn fk_;refine⟨q',oj!,?_,(ao q' (lv q' am_)).trans u3⟩;have e:(bb_).num x=W.num x:=by show fl_=_;rw[HR (HY xn)]
   rw[e,c1 q' am_ am_ am_ am_ am_ am_ am_];exact u2
  .refine⟨q,dL _ _ _,?_,q7⟩;have e:(hd_).num x=tq!:=by show he!=_;rw[j!]
   rw[e,e8,wx!,mup_same]
 case wr=>
  intro x O q0 hq;obtain O|rfl:=(cB_).mp O
  .have e:(bb_).txt x=W.txt x:=by show fl_=_;rw[ol_]
   rw[e]at hq;exact hA.wr x O q0 hq
  .have e:(hd_).txt x=[]:=by show he!=_;rw[j!]
   rw[e]at hq;cases hq
 case hi=>
  intro x O q0 hq;obtain O|rfl:=(cB_).mp O
  .have e:(bb_).txt x=W.txt x:=by show fl_=_;rw[ol_]
   rw[e]at hq;exact hA.hi x O q0 hq
  .have e:(hd_).txt x=[]:=by show he!=_;rw[j!]
   rw[e]at hq;cases hq
 case hk=>
  intro s hs;obtain⟨x,B,Y⟩:=hA.hk s hs;refine⟨x,(cB_).mpr (.inl B),?_⟩;have e:(bb_).txt x=W.txt x:=by show fl_=_;rw[HR (λz:x=n=>hn (z▸B))]
  rw[e];exact Y
 case lr=>
  obtain⟨u,v,e,rfl,_⟩:=hg;rw[ju]at e;show(u++(n,pl)::v).length<=_;have:=hA.lr;rw[e]at this;simp at this ⊢;omega
 case lt=>
  intro x O;obtain O|rfl:=(cB_).mp O
  .have e:(bb_).txt x=W.txt x:=by show fl_=_;rw[ol_]
   rw[e];exact up jI_
  .have e:(hd_).txt x=[]:=by show he!=_;rw[j!]
   rw[e];simp
 case live=>
  intro c hc;have s8:∀c,M5 c≠none->M8 c≠none:=λc hc=>by
   rw[e8];by_cases h6:c=a4
   .rw[h6,mup_same];simp
   .rw[hc_,wm_];exact VQ c hc
  by_cases hM:M c=none
  .by_cases ug:c=r1
   .rw[ug];exact s8 _ (gc _ v1)
   .by_cases uh:c=f1
    .rw[uh];exact s8 _ (gc _ v2)
    .by_cases km:c=p1
     .rw[km];exact s8 _ (gc _ v3)
     .by_cases iz:c=r2
      .rw[iz];exact s8 _ v4
      .by_cases ky:c=f2
       .rw[ky];exact s8 _ v5
       .by_cases ui:c=p2
        .rw[ui];exact s8 _ v6
        .by_cases ja:c=q
         .rw[ja,e8,wx!,mup_same];simp
         .have:ae c=rl c:=by show wn!=_;rw[HR ug,HR uh,HR km,HR iz,HR ky,HR ui,HR ja]
          rw[this]at hc;exact absurd hM (lv c hc)
  .exact s8 _ (gc _ (s3 c hM))
end
section
variable{t:Ar}{M:Mh}{ρ:Ad}{R:Fl->Mh->Prop}
def a1d{fo fi f:WE}{q:WS}(h:f ρ M λv M1=>fo ρ M1 λd M2=>fi ρ M2 λy M3=>Dx pQ! λM4=>q ρ M4 R):Ah (Bw fo fi f) q ρ M R:=by exact h
def b6q{f:WE}{q:WS}(h:f ρ M λ_ M1=>q ρ M1 R):Ah (Bu f) q ρ M R:=h
def pP{o:xz!}{fs:aS_}{kvs:h_}{ep:Nat}{fo fi:e!}{Q:bJ!}(h0:fo ρ=some ag!)(B:fi ρ=some y)(hM:M o=some he_)(O:fs.lookup x=some G!)(hp:bG!)(hk:b0!)(hl:cN_)
  (hQ:Q hP!):Av C x cH_ ρ M (λd M2=>wl fi ρ M2 λy M3=>Dx pQ! λM4=>Q M4):=by
 have e:Lf M G! y v=some hP!:=by simp[Lf,hp,hk,hl]
 simp only[Av,wl,h0,Gr,hM,JT,O,Dx,B,e];exact hQ
def d1l{g:WF}{fo:WE}{f1 f2:e!}{K:s_}(h0:∀K,fo ρ M K=K d M)(ho:k7_)(B:fm!)(Y:hf!)(k:g [d,a,b] M K):Ba C m 3 g fo wy_ ρ M K:=by unfold Ba Ab Af;rw[h0];simp only[wl,B,Y];exact om!
def Zt(t:Ar):WS:=Ah rQ!
 (Ah rQ_
 (Ah rR!
 (Ah rR_
 rT!)))
end
section
variable{t:Ar}{M:Mh}{o:xz!}{rl:Addr->Pc}{W:OW}{h1:Nat}{R:D->Mh->Prop}
def c7c(hO:aC_)(w:By W)(hn:nF!)(ht:Ik n)(kg:dp!)(zx:Dc b=some kb)(hB:g4!)(hg:Rl W.rows n dp_ b rows')
  (hR:∀M' ae,Ce t M' o ae bb_ bo_->Fr M rl M' ae->R .non M'):Jr t [bc!,n,a,b] M R:=by
 have h':=hO;obtain⟨a1,a2,a3,a4,a5,a6,k1,k2,k3,k4,k5,k6,hA⟩:=h';obtain⟨e1,B⟩:=hA.d1;obtain⟨e2,Y⟩:=hA.d2;obtain⟨e3,h3⟩:=hA.d3;obtain⟨e4,h4⟩:=hA.d4;obtain⟨kn,gd⟩:=ht.key;have a8:∀{c d:xz!},rl c≠rl d->c≠d:=λh z=>h hc!;have lv:∀c,rl c≠.oth->M c≠none:=hA.live;have L1:nM_<big:=by have:=hA.l1;unfold big;omega
 have L2:k2.length<big:=by have:=hA.l2;unfold big;omega
 have L3:k3.length<big:=by have:=hA.l3;unfold big;omega
 have L4:k4.length<big:=by have:=hA.l4;unfold big;omega
 have hp:Ft W dp_:=by split;assumption;exact .inr gN!
 refine k!;have hm:Dg t.B4 "has" M ag!:=hA.noOb oM1;generalize hK:wz!=KK;have g7:∀ρ' M',R .non M'->KK cP! M':=λρ' M' z=>by rw[<-hK];exact z
 have key:∀pl,pl=dp_->Zt t fm_ M KK:=by
  intro pl epl;rw[<-epl]at hg hp;obtain⟨r,f,p,g1,g2,g3,g4,g5⟩:=hA.row pl hp;obtain⟨kpl,hkpl⟩:=qN w hp;refine a1d ?_;have f4:Aa 4 fm_=some pl:=rfl;have me:Aa 1 fm_=some n:=rfl;have f3:Aa 3 fm_=some b:=rfl;have f0:Aa 0 fm_=some ag!:=rfl;simp only[wl,f4];refine pP f0 me hA.ob oF1 B gd L1 ?_;refine b6q ?_;have n1:∀c,rl c≠.par->Bd M a1 on! c=M c:=λc hc=>mup_ne λz=>hc og!;have uj:∀R',w2 Br cy! aX! fm_ on_ R'=R' ba_ on_:=by
   intro R';simp[w2,wl,Av,Gr,n1 o P_,n1 a2 aD!,hA.ob,oF2,Br,Y,hkpl,g1,Dx,Aa]
  have uk:=g2.keep (M':=Bd M a1 on!) (n1 r dk!) (n1 f ec!) (n1 p ec_);have ym:Dg t.B5 "put_behind" on_ ba_:=by simp only[Dg,uk.ob,rM.1,and_self]
  refine d1l uj ym me f3 ?_;refine jF uk gd zx ht.nn.1 (λz=>sD w hn pl oo!) (by have:=a4d (W:=W) (x:=pl);have:=hA.lr;omega) (uX w) λM2 R2 K2=>?_;have m2:∀c,rl c≠.par->rl c≠.rF pl->rl c≠.rP pl->M2 c=M c:=λc B Y h3=>(K2 c (λz=>Y og_) (λz=>h3 oh!)).trans (n1 c B);have p7:M2 o=_:=(m2 o P_ P_ P_).trans hA.ob;have VV:M2 a2=_:=(m2 a2 aD! aD! aD!).trans Y;have VW:M2 a3=_:=(m2 a3 a0_ a0_ a0_).trans h3;have VX:M2 a4=_:=(m2 a4 a1! a1! a1!).trans h4;refine a1d ?_;refine qA λr1 f1 p1 M3 z1 z2 z3 _ _ R3 K3=>?_;have m3:∀c,M2 c≠none->M3 c=M2 c:=λc hc=>K3 c (aW hc z1) (aW hc z2) (aW hc z3);have zy:=(m3 o (by rw[p7];simp)).trans p7;have d32:=(m3 a2 (by rw[VV];simp)).trans VV;have VY:=(m3 a3 (by rw[VW];simp)).trans VW;have VZ:=(m3 a4 (by rw[VX];simp)).trans VX;have oa2:o≠a2:=a8 (by rw[hA.ro,hA.r2];simp);have V':o≠a3:=a8 (by rw[hA.ro,hA.r3];simp);have zz:a3≠a2:=a8 (by rw[hA.r3,hA.r2];simp);have a42:a4≠a2:=a8 (by rw[hA.r4,hA.r2];simp);have WB:a4≠a3:=a8 (by rw[hA.r4,hA.r3];simp);refine pP f0 me zy oF2 d32 gd L2 ?_;refine a1d ?_;refine qA λr2 f2 p2 M5 y1 y2 y3 _ _ R5 K5=>?_;have m5:∀c,c≠a2->M3 c≠none->M5 c=M3 c:=λc h0 hc=>by
   have q:Bd M3 a2 (.dct n6! (Gp k2 n e2)) c≠none:=by rw[mup_ne h0];exact hc
   rw[K5 c (aW q y1) (aW q y2) (aW q y3),mup_ne h0]
  have z5:=(m5 o oa2 (by rw[zy];simp)).trans zy;have d53:=(m5 a3 zz (by rw[VY];simp)).trans VY;have WC:=(m5 a4 a42 (by rw[VZ];simp)).trans VZ;refine pP f0 me z5 oF3 d53 gd L3 ?_;unfold Bw;refine⟨ag_,⟨ag_,ag_,ag_⟩,λq x1=>?_⟩;have q0:o≠q:=aW (N:=wB_) (by rw[mup_ne V',z5];simp) x1;have q4:a4≠q:=aW (N:=wB_) (by rw[mup_ne WB,WC];simp) x1;obtain⟨ae,F1,F2⟩:=b7j (e1:=Gp k1 n e1) (e2:=Gp k2 n e2) (e3:=Gp k3 n e3) (e4:=Gp k4 n e4) hA w hn ht hp hg g1 g3 g4 g5 R2 K2 z1 z2 z3 R3 K3 y1 y2 y3 R5 K5 x1;have:=hR _ ae ⟨_,_,_,_,_,_,_,_,_,_,_,_,F1⟩ F2;exact pP (kvs:=k4) (ep:=e4) f0 me ((mup_ne q0).trans ((mup_ne V').trans z5)) oF4 ((mup_ne q4).trans ((mup_ne WB).trans WC)) gd L4 (g7 _ _ this)
 show Ah rP_ (Zt t) wC_ M KK;have hh:∀K:D->Mh->Prop,Cm t [bc!,a] M K->Ba t.B4 "has" 2 gh_ i_ eN_ wC_ M K:=λK ul=>⟨hm,rfl,ul⟩;unfold Ah An BC wT;refine hh _ (xL hO kg ?_);by_cases c:Ft W a
 .rw[IT c];exact key a (by rw[IA c])
 .rw[IK c];exact key binn (by rw[HR c])
def uO(hO:aC_)(w:By W)(cn:fe_)(gk:nP_)(og:Dc s=some ks)(hB:g4!)
  (hR:∀M',(eb!->∀rows',Rl W.rows i x s rows'->Ce t M' o rl {W with rows:=rows'} bo_)->(¬eb!->Ce t M' o rl W bo_)->Fr M rl M' rl->R .non M'):
  Gn t [bc!,i,x,s] M R:=by
 have h':=hO;obtain⟨a1,a2,a3,a4,a5,a6,k1,k2,k3,k4,k5,k6,hA⟩:=h';obtain⟨e1,B⟩:=hA.d1;obtain⟨e2,Y⟩:=hA.d2;refine k!;show Ah (Aq _ _ _) _ op! M _;simp only[Ah,Aq,Lj,wT,Ba,wl,Ab,Af,Aa,List.getElem?_cons_zero,List.getElem?_cons_succ,Option.join_some];refine⟨hA.noOb oM5,rfl,?_⟩;refine a8a hO w cn gk λb hb=>?_;cases b with
 |false=>
  have hc:¬eb!:=λz=>by have:=hb.mpr z;cases this
  have:=hR M (λz=>absurd z hc) (λ_=>hO.mono a!) .refl;simpa[Qc]using this
 |true=>
  have hc:=hb.mp rfl;obtain⟨hi,O,hw⟩:=hc;obtain⟨p0,dz⟩:=a9c w hi;have WD:Ft W p0:=w.rp _ _ dz;obtain⟨r0,f0,q0,u1,u2,u3,u4,u5⟩:=hA.row p0 WD;obtain⟨r,f,p,g1,g2,g3,g4,g5⟩:=hA.row x O;obtain⟨zq,hkp0⟩:=qN w WD;obtain⟨uu,vv,c1,c2⟩:=b0u w.rnd dz;have a8:∀{c d:xz!},rl c≠rl d->c≠d:=λh z=>h hc!;have lr:=hA.lr;have hx0:∀R',w2 Br cy! iB! op! M R'=R' (.fn r0) M:=by
   intro R';simp[w2,wl,Av,Gr,hA.ob,oF1,oF2,Br,B,Y,cn,hA.pr i p0 dz,hkp0,u1,Dx,Aa]
  have WG:Dg t.B5 "take_out" M (.fn r0):=by simp only[Dg,u2.ob,rM.2.1,and_self]
  simp only[Bool.not_true,Bool.false_eq_true,if_false,Bq,Bu,Ba,hx0];refine⟨WG,rfl,?_⟩;refine a4r u2 c1 cn (by have:=a4d (W:=W) (x:=p0);omega) (uX w) λM1 R1 K1=>?_;rw[<-c2]at R1;have m1:∀c,rl c≠.rF p0->rl c≠.rP p0->M1 c=M c:=λc B Y=>K1 c (λz=>B (by rw[z,u4])) (λz=>Y (by rw[z,u5]));have wf:=(m1 o P_ P_).trans hA.ob;have d11:=(m1 a1 bV! bV!).trans B;have d12:=(m1 a2 aD! aD!).trans Y;have uk:Ek t M1 r f p (chl j3! x):=by
   by_cases e:p0=x
   .subst e;rw[u1]at g1;cases g1;obtain⟨z1,z2⟩:f=f0/\p=q0:=by
     have:=u2.ob;rw[g2.ob]at this;simp at this;show"#D"
    rw[z1,z2];exact R1
   .rw[a0p λz=>e wD_];exact g2.keep (m1 r dk! dk!) (m1 f (by rw[g4];simpa using Ne.symm e) ec!) (m1 p ec_ (by rw[g5];simpa using Ne.symm e))
  have uj:∀R',w2 Br cy! D_ op! M1 R'=R' ba_ M1:=by
   intro R';simp[w2,wl,Av,Gr,wf,oF2,Br,d12,gk,g1,Dx,Aa]
  have wz:Dg t.B5 "put_behind" M1 ba_:=by simp only[Dg,uk.ob,rM.1,and_self]
  simp only[uj];refine⟨wz,rfl,?_⟩;have lw:(chl j3! x).length<=ch!:=by
   have a:=(b3j (rows:=wo W.rows i) (x:=x)).length_le;have b:=(wE!).length_le;simp at a b;omega
  refine jF uk cn og (g3!).nn.1 (λz=>(kM.mp oo!).2 rfl) a! (λc hc=>uX w c (gU.mpr (kM.mp (gU.mp hc)).1)) λM2 R2 K2=>?_;have m2:∀c,rl c≠.rF x->rl c≠.rP x->M2 c=M1 c:=λc B Y=>K2 c (λz=>B og_) (λz=>Y oh!);have p7:=(m2 o P_ P_).trans wf;have d21:=(m2 a1 bV! bV!).trans d11;have L1:nM_<big:=by have:=hA.l1;unfold big;omega
  have fin:R .non (Bd M2 a1 op_):=by
   have n3:∀c,rl c≠.par->Bd M2 a1 op_ c=M2 c:=λc hc=>mup_ne λz=>hc og!;have aw:∀c,rl c≠.par->rl c≠.rF x->rl c≠.rP x->rl c≠.rF p0->rl c≠.rP p0->Bd M2 a1 op_ c=M c:=λc B Y h3 h4 h5=>(n3 c B).trans ((m2 c Y h3).trans (m1 c h4 h5));refine hR _ (λ_ rows' hg=>⟨a1,a2,a3,a4,a5,a6,As k1 i x,k2,k3,k4,k5,k6,?_⟩) (λz=>absurd ⟨hi,O,hw⟩ z) λc hc L=>⟨aw c eb_ eb_ eb_ eb_ eb_,L⟩;have up:∀{x:Nat},x<=h1->x<=h1+20:=λh=>by omega
   have xi:i≠root/\i≠binn:=⟨(g3!).nn.2.1,(g3!).nn.2.2⟩;refine{hA with ob:=?_,d1:=jJ_,d2:=?_,d3:=?_,d4:=?_,d5:=?_,d6:=?_,p0:=⟨by rw[dU xi.1];exact hA.p0.1,by rw[dU xi.2];exact hA.p0.2⟩,pr:=?_,row:=?_,txt:=?_,num:=?_,l1:=Nat.le_trans d4_ (by have:=hA.l1;omega),l2:=up hA.l2,l3:=up hA.l3,l4:=up hA.l4,l5:=up hA.l5,l6:=up hA.l6,lr:=?_,lt:=λy hy=>up (hA.lt y hy),live:=?_}
   .rw[aw o P_ P_ P_ P_ P_];exact hA.ob
   .rw[aw a2 aD! aD! aD! aD! aD!];exact hA.d2
   .rw[aw a3 a0_ a0_ a0_ a0_ a0_];exact hA.d3
   .rw[aw a4 a1! a1! a1! a1! a1!];exact hA.d4
   .rw[aw a5 aQ! aQ! aQ! aQ! aQ!];exact hA.d5
   .rw[aw a6 aD_ aD_ aD_ aD_ aD_];exact hA.d6
   .intro a b hm;obtain z|z:=hg.mem.mp hm
    .cases z;rw[dL]
    .obtain⟨z1,z2⟩:=kM.mp z;rw[dU (Ne.symm z2)];exact hA.pr a b z1
   .intro y hy;by_cases e:x=y
    .subst e;refine v2_;rw[wv_];exact R2.keep (n3 r dk!) (n3 f ec!) (n3 p ec_)
    .rw[hg.chl_ne e];by_cases e':p0=y
     .subst e';refine⟨r0,f0,q0,u1,?_,u3,u4,u5⟩;exact R1.keep ((n3 r0 am_).trans (m2 r0 am_ am_)) ((n3 f0 aL_).trans (m2 f0 (by rw[u4];simpa using Ne.symm e) aL_)) ((n3 q0 aM!).trans (m2 q0 aM! (by rw[u5];simpa using Ne.symm e)))
     .obtain⟨r',f',p',v1,v2,v3,v4,v5⟩:=hA.row y hy;refine⟨r',f',p',v1,?_,v3,v4,v5⟩;rw[a0p λz=>e' wD_];exact v2.keep wI! (aw f' cI! (by rw[v4];simpa using Ne.symm e) cI! (by rw[v4];simpa using Ne.symm e') cI!) (aw p' cI_ cI_ (by rw[v5];simpa using Ne.symm e) cI_ (by rw[v5];simpa using Ne.symm e'))
   .intro y hy;obtain⟨r',f',p',v1,v2,v3,v4,v5⟩:=hA.txt y hy;exact⟨r',f',p',v1,v2.keep wI! (aw f' cI! cI! cI! cI! cI!) (aw p' cI_ cI_ cI_ cI_ cI_),v3,v4,v5⟩
   .intro y hy;obtain⟨q,v1,v2,v3⟩:=hA.num y hy;exact⟨q,v1,(aw q bG_ bG_ bG_ bG_ bG_).trans v2,v3⟩
   .obtain⟨u,v,e,rfl,_⟩:=hg;have b:=(wE!).length_le;rw[e]at b;simp at b ⊢;omega
   .intro c hc;by_cases y0:c=a1
    .rw[y0,mup_same];simp
    .rw[mup_ne y0];by_cases y1:c=f
     .rw[y1];exact R2.live.2.1
     .by_cases y2:c=p
      .rw[y2];exact R2.live.2.2
      .rw[K2 c y1 y2];by_cases y3:c=f0
       .rw[y3];exact R1.live.2.1
       .by_cases y4:c=q0
        .rw[y4];exact R1.live.2.2
        .rw[K1 c y3 y4];exact hA.live c hc
  simpa[Bw,wl,Av,Gr,Dx,Aa,p7,oF1,Lf,d21,cn,L1]using fin
end
end K11
namespace K11
open PySem L2 DL
nonrec def Ar.nd(t:Ar):Prop:=[t.A0,t.A5,t.A6,t.A7,t.A8,t.A9,t.B0,t.B1,t.B2].Nodup
def Lw(c:Nat):Bool:=decide (32<=c)&&decide (c<=126)&&!(c==37)
def Ul(s:Str):Bool:=decide (aE!<=1000)&&s.cps.toList.all Lw
def c8e(a c:Nat):Ru ⟨#[a]⟩ ar_=decide (a<=c):=by
 unfold Ru;simp only[List.cons_lt_cons_iff,List.not_lt_nil,and_false,LB];by_cases h:c<a
 .simp[h]
 .simp[h];omega
def b5e:(" ":Str)=⟨#[32]⟩:=by decide+kernel
def b5d:("~":Str)=⟨#[126]⟩:=by decide+kernel
def c8u(c:Nat):Hb [gJ_]=some (.bl (Lw c)):=by
 push_cast[Hb,Si,Za,b5e,b5d,c8e,Str.length,Lw]
 by_cases B:32<=c<;>by_cases Y:c<=126<;>simp[B,Y];rw[LQ];simp;omega
def xR(ρ:Ad)(oj:ρ=dq_):∀(cs:m_),cs.all Lw=true->
  Ej J! a6! ir_ ρ (cs.map λc=>.str ar_)=some j4!
 |[],_=>rfl
 |c::cs,h=>by
  rw[NR,IZ]at h;have ih:=xR ρ oj cs h.2;subst oj;simp only[HZ,Ej,ih];simp[Bm,f1,Ac,Aa,Ag,c8u,h.1]
def xV:∀(cs:m_),Nh wL!=some wM!
 |[]=>rfl
 |c::cs=>by simp only[HZ,Nh,xV cs,OH]
def a3t(a b:Str):Dw (.str a) (.str b)=fZ!:=by unfold Dw;rfl
def a3u(a b:Int):Dw (.int a) j5!=fZ!:=by unfold Dw;rfl
def a8f(s:Str):∀xs:List Str,wM_=xs.any (·==s)
 |[]=>rfl
 |x::xs=>by rw[HZ,MD,MD,a8f s xs,a3t]
def c4i(s:Str)(xs:p!):Vl false aE_ (.tup j5_)=some (.bl (xs.any (·==s))):=by
 have h:(j5_).all Ky=true:=by simp[LG,Ky]
 show(if Ky aE_&&(j5_).all Ky then some (D.bl wM_)else none)=_;rw[h,a8f];rfl
def tM:(Str.ofString "put"==Str.ofString "undo")=false:=by decide+kernel
def tN:(Str.ofString "put"==Str.ofString "redo")=false:=by decide+kernel
def jA:(Str.ofString "move"==Str.ofString "put")=false:=by decide+kernel
def a3e:(Str.ofString "move"==Str.ofString "undo")=false:=by decide+kernel
def a3f:(Str.ofString "move"==Str.ofString "redo")=false:=by decide+kernel
def jB:(Str.ofString "drop"==Str.ofString "put")=false:=by decide+kernel
def iH:(Str.ofString "drop"==Str.ofString "move")=false:=by decide+kernel
def qI:(Str.ofString "drop"==Str.ofString "undo")=false:=by decide+kernel
def qJ:(Str.ofString "drop"==Str.ofString "redo")=false:=by decide+kernel
def kS:(Str.ofString "write"==Str.ofString "put")=false:=by decide+kernel
def jK:(Str.ofString "write"==Str.ofString "move")=false:=by decide+kernel
def jL:(Str.ofString "write"==Str.ofString "drop")=false:=by decide+kernel
def a3d:(Str.ofString "write"==Str.ofString "cut")=false:=by decide+kernel
def a3c:(Str.ofString "write"==Str.ofString "set")=false:=by decide+kernel
def yS:(Str.ofString "write"==Str.ofString "undo")=false:=by decide+kernel
def yT:(Str.ofString "write"==Str.ofString "redo")=false:=by decide+kernel
def oY:(Str.ofString "cut"==Str.ofString "put")=false:=by decide+kernel
def mJ:(Str.ofString "cut"==Str.ofString "move")=false:=by decide+kernel
def mK:(Str.ofString "cut"==Str.ofString "drop")=false:=by decide+kernel
def kW:(Str.ofString "cut"==Str.ofString "write")=false:=by decide+kernel
def b0f:(Str.ofString "cut"==Str.ofString "set")=false:=by decide+kernel
def a6s:(Str.ofString "cut"==Str.ofString "undo")=false:=by decide+kernel
def a6t:(Str.ofString "cut"==Str.ofString "redo")=false:=by decide+kernel
def oW:(Str.ofString "set"==Str.ofString "put")=false:=by decide+kernel
def mH:(Str.ofString "set"==Str.ofString "move")=false:=by decide+kernel
def mI:(Str.ofString "set"==Str.ofString "drop")=false:=by decide+kernel
def kU:(Str.ofString "set"==Str.ofString "write")=false:=by decide+kernel
def oX:(Str.ofString "set"==Str.ofString "cut")=false:=by decide+kernel
def a6p:(Str.ofString "set"==Str.ofString "undo")=false:=by decide+kernel
def a6q:(Str.ofString "set"==Str.ofString "redo")=false:=by decide+kernel
def tI:(Str.ofString "undo"==Str.ofString "put")=false:=by decide+kernel
def qD:(Str.ofString "undo"==Str.ofString "move")=false:=by decide+kernel
def qE:(Str.ofString "undo"==Str.ofString "drop")=false:=by decide+kernel
def oB:(Str.ofString "undo"==Str.ofString "write")=false:=by decide+kernel
def tJ:(Str.ofString "undo"==Str.ofString "cut")=false:=by decide+kernel
def a6o:(Str.ofString "undo"==Str.ofString "set")=false:=by decide+kernel
def tK:(Str.ofString "redo"==Str.ofString "put")=false:=by decide+kernel
def qG:(Str.ofString "redo"==Str.ofString "move")=false:=by decide+kernel
def qH:(Str.ofString "redo"==Str.ofString "drop")=false:=by decide+kernel
def oC:(Str.ofString "redo"==Str.ofString "write")=false:=by decide+kernel
def tL:(Str.ofString "redo"==Str.ofString "cut")=false:=by decide+kernel
def a6r:(Str.ofString "redo"==Str.ofString "set")=false:=by decide+kernel
def qF:(Str.ofString "redo"==Str.ofString "undo")=false:=by decide+kernel
def gV(a b:Str):Aw (.str a) (.str b)=some (.bl fZ!):=by simp[Aw,Bh,Ij,a3t]
def in2(k a b:Str):Vl false U_ os_=some (.bl ot!):=by have:=c4i k ak_;simpa only[HZ,NE,MD,List.any_nil,Bool.or_false]using this
def qT(a b:Int):Aw (.int a) j5!=some (.bl fZ!):=by simp[Aw,Bh,Ij,a3u]
abbrev scr(ns:z!):D:=.lst jt!
def a4f{α:Type}{xs:N_}{i:Int}(h0:0<=i)(B:i<k_):∃x,Cw xs i=some x/\x∈xs:=by refine⟨xs[i.toNat]' a!,?_,JW _⟩;unfold Cw Ea;rw[IA h0,IA B];simp
def c5j(ns:z!)(k:Int):∃c,Oi [bH!,hh_]=some (.int c):=by
 cases ns with
 |nil=>exact⟨0,by push_cast[Oi,Ta,scr,Wl]⟩
 |cons n r=>
  have hp:(0:Int)<hi!+1:=by omega
  obtain⟨x,e,O⟩:=a4f (xs:=wQ!) (i:=k%(hi!+1)) (KP _ a!) (by simpa using JX k hp);obtain⟨c,_,rfl⟩:=IP.mp O;refine⟨c,?_⟩;have e':Ai (.lst wQ!) (.int (k%(hi!+1)))=some (.int c):=e;simp only[HZ]at e';simp[Oi,Ta,scr,Cg,Bk,sSeq,Gg,Ct,Aa,Wl,f2,f1,Ac,Ag,Bf,Bn,Du,hp,e']
def jJ(ns:z!){k:Int}:∃m,Bi [bH!,hh_]=some bF!/\0<=m/\m<4294967231:=by obtain⟨c,hc⟩:=c5j ns k;refine⟨_,by push_cast[Bi,Xp,hc,Um];rfl,KP _ c_,JX _ c_⟩
def nA{n:Int}(h:xs≠[]):∃x,Dv [.lst xs,aP_]=some x/\x∈xs:=by
 have hl:0<k_:=List.length_pos_iff.mpr h;have hp:(0:Int)<jg!:=by omega
 obtain⟨x,e,O⟩:=a4f (xs:=xs) (i:=n%jg!) (KP _ a!) (JX n hp);refine⟨x,?_,O⟩;have e':Ai R! (.int (n%jg!))=some x:=e;simp[Dv,Wc,Cg,Bk,Aa,f2,f1,Ac,Ag,Bf,Bn,Du,hp,e',hl]
def qC{bnd:an!}{q:aS!}(P:Nat->Ad->Prop):∀(ds:b!) (i:Nat) (ρ:Ad),P i ρ->
  (∀(j:Nat) (d:D) (ρ:Ad),ds[j]?=some d->P (i+j) ρ->∃ah bg,bnd d ρ=some ah/\q ah=some (.nx bg)/\P (i+j+1) bg)->
  ∃ρ',Re bnd q ds ρ=some cP!/\P (i+f_) ρ'
 |[],i,ρ,h,_=>⟨ρ,rfl,h⟩
 |d::ds,i,ρ,h,hs=>by
  obtain⟨ah,bg,e1,e2,Y⟩:=hs 0 d ρ rfl h;obtain⟨ρ',e3,h3⟩:=qC P ds aX_ bg Y λj d ρ hd hp=>by
   have:=hs (j+1) d ρ (by simpa using hd) (by rw[show i+(j+1)=i+1+j by omega];exact hp);rw[show i+(j+1)+1=i+1+j+1 by omega]at this;show"#D"
  refine⟨ρ',?_,by rw[IH,show i+(ds.length+1)=i+1+ds.length by omega];exact h3⟩;simp[Re,e1,e2,e3]
def mT{bnd:an!}{ft:ad!}{fe:e!}{ρ:Ad}(R:D->Prop):∀(ds:b!),(∀d∈ds,∃ah b,bnd d ρ=some ah/\ft ah=some b/\(b=true->∃y,fe ah=some y/\R y))->
  ∃ys,Ej bnd ft fe ρ ds=some ys/\ac_<=f_/\∀y∈ys,R y
 |[],_=>⟨[],rfl,IQ _,λy hy=>by cases hy⟩
 |d::ds,h=>by
  obtain⟨ah,b,e1,e2,hy⟩:=h d HV;obtain⟨ys,e3,hl,L⟩:=mT R ds λx O=>h x bH_
  cases b with
  |false=>exact⟨ys,by simp[Ej,e1,e2,e3],el_,L⟩
  |true=>
   obtain⟨y,e4,r4⟩:=hy rfl;refine⟨y::ys,by simp[Ej,e1,e2,e3,e4],el_,lf_⟩;obtain rfl|hz:=HQ.mp hz
   .exact r4
   .exact L z hz
def tV{bnd:an!}{fe:e!}{ρ:Ad}:∀{ds ys:b!},Ej bnd a6! fe ρ ds=some ys->ac_=f_
 |[],ys,e=>by cases e;rfl
 |d::ds,ys,e=>by
  unfold Ej at e;obtain⟨ah,e1,e⟩:=HM.mp e;simp only[LX,JT]at e;obtain⟨y,e3,e⟩:=HM.mp e;obtain⟨zs,e4,rfl⟩:=IB.mp e;simp[tV e4]
def NameG(x:D):Prop:=∃a b,x=.tup [.int a,fa_]/\0<=a/\a<16/\1<=b/\b<=2000
def Cz(x:D):Prop:=x=.str "root"\/x=.str "bin"\/NameG x
def Mt(x:D):Prop:=x=.non\/NameG x
def Yc(x:D):Prop:=∃a b c,x=.tup vj_/\0<=a/\a<16/\1<=b/\b<=2000/\0<=c/\c<=15
def Kz(x:D):Prop:=x=.non\/Yc x
inductive DG:D->Prop
 |put {a b:D}:Cz a->Mt b->DG em!
 |move {a b c:D}:Cz a->Cz b->Mt c->DG hi_
 |drop {a:D}:Cz a->DG hj!
 |write {a b:D} {s:Str}:Cz a->Kz b->Ul s=true->1<=aE!->aE!<=16->DG fp_
 |cut {a:D} {x y z m:Int}:Cz a->Yc ee!->1<=m->z+m<=16->DG em_
 |set {a:D} {p n:Int}:Cz a->0<=p->p<=3->n.natAbs<10 ^ 60->DG (.tup [j9!,a,.int p,aP_])
 |undo {a:D}:NameG a->DG (.tup [ov_,a])
 |redo {a:D}:NameG a->DG (.tup [.str "redo",a])
def Vo(o:D):Prop:=∃h n tm d,o=.tup [aR!,aP_,.int tm,d]/\0<=h/\h<16/\1<=n/\n<=2000/\DG d
def a7r(h:DG d):∃k r,d=.tup dr!/\(k="write"->∃a b s,r=[a,b,dn!]/\aE!<=16):=by
 cases h with
 |write _ _ _ _ h5=>exact⟨_,_,rfl,λ_=>⟨_,_,_,rfl,h5⟩⟩
 |_=>exact⟨_,_,rfl,λz=>absurd z u!⟩
def c0c{ops:b!}(h:j9_)(hl:ka_):∃its,Md [.lst ops]=some ow!/\3<=gO!/\gO!<=200/\∀x∈its,Cz x:=by
 obtain⟨ys,e,l,L⟩:=mT (ρ:=dq_) (bnd:=Bm 0) (ft:=fT mM_) (fe:=Az gv!)
  (wW!) ops (by
   intro o ho;obtain⟨h',n,tm,d,rfl,b1,b2,b3,b4,hd⟩:=h o ho;obtain⟨k,r,rfl,_⟩:=a7r hd;refine⟨_,_,rfl,by push_cast[gV];rfl,λ_=>⟨_,by push_cast,wW_⟩⟩)
 have hc:Fa 1 [] eR_ J! (fT mM_) (Az gv!) [aF!]=some ba!:=by
  show wX!;rw[ds!,e];rfl
 have a1:Al (.lst [.str "root"]) ba!=some wX_:=by
  show(if 1+ac_<=big then some (D.lst ([.str "root"]++ys))else none)=_;rw[ds!];rfl
 have a2:Al wX_ (.lst kb_)=some (.lst (.str "root"::(ys++kb_))):=by
  show(if ac_+1+2<=big then some (D.lst (.str "root"::ys++kb_))else none)=_;rw[ds!];rfl
 refine⟨.str "root"::(ys++kb_),by simp[Md,Ui,Cg,Bk,f2,fC,hc,a1,a2],G_,el_,aZ_⟩;simp at O;obtain rfl|O|rfl|rfl:=O
 .exact cY!
 .exact .inr (.inr (L x O))
 .exact .inr ao_
 .exact .inr (.inr ⟨9,9,rfl,ag_,ag_,ag_,ag_⟩)
def b6p{ops:b!}(h:j9_)(hl:ka_):∃ss,Mc [.lst ops]=some (.lst ss)/\ss≠[]/\∀x∈ss,Kz x:=by
 let P:Nat->Ad->Prop:=λi ρ=>∃cx x y,ρ=[aF!,oy!,x,y]/\cx≠[]/\oy_<=2+16*i/\∀z∈cx,Kz z
 obtain⟨ρ',e,cx,x,y,rfl,f0,_,hf⟩:=qC (bnd:=Bx 2) (q:=Gg s8! s9_ Ct)
  P ops 0 [aF!,some (.lst [.non,.tup [fq!,fq!,.int 3]]),none,none] ⟨_,_,_,rfl,by simp,by simp,by
   intro z hz;simp at hz;obtain rfl|rfl:=hz
   .exact cY!
   .exact .inr ⟨9,9,3,rfl,ag_,ag_,ag_,ag_,ag_,ag_⟩⟩ (by
  rintro j d ρ hd ⟨cx,x,y,rfl,f0,fl,hf⟩;have hj:j<ka!:=(IJ.mp hd).1;obtain⟨h',n,tm,d',rfl,b1,b2,b3,b4,hdg⟩:=h d (NW hd);obtain⟨k,r,rfl,hw⟩:=a7r hdg;by_cases hk:k="write"
  .subst hk;obtain⟨a,b,s,rfl,s16⟩:=hw rfl;have ue:aE!<=big:=by unfold big;omega
   let P2:Nat->Ad->Prop:=λi ρ=>∃cx y,ρ=w1_/\cx≠[]/\oy_<=2+16*(0+j)+i/\∀z∈cx,Kz z
   obtain⟨bg,e2,WH,y2,rfl,f20,f2l,yk⟩:=qC (bnd:=Bx 3) (q:=Pr 1 s9!) P2 (Dp aE!) 0
    (w1_) ⟨cx,y,rfl,f0,fl,hf⟩ (by
     rintro i d ρ hd ⟨cx,y,rfl,f0,fl,hf⟩;unfold Dp at hd;rw[JG]at hd;obtain⟨i',c8,rfl⟩:=IB.mp hd;obtain⟨ai,he⟩:=IJ.mp c8;rw[PK]at he;subst he;rw[MM]at ai;have hb:oy_<big:=by unfold big;omega
     refine⟨_,_,rfl,by push_cast[Pr,hb];rfl,cx++[.tup [.int h',aP_,fr!]],_,rfl,G_,el_,lf_⟩;obtain hz|hz:=HU.mp hz
     .exact hf z hz
     .simp at hz;subst hz;exact .inr ⟨_,_,_,rfl,b1,b2,b3,b4,t_,t_⟩)
   have L:-1000<=ke!/\ke!<=100000:=by omega
   refine⟨_,[aF!,some (.lst WH),w1!,y2],rfl,by push_cast[gV,Rp,Em,ue,L,e2],WH,_,_,rfl,f20,?_,yk⟩;simp[Dp]at f2l;omega
  .refine⟨_,[aF!,oy!,some (.tup [.int h',aP_,.int tm,.tup dr!]),y],rfl,by push_cast[gV,hk],cx,_,_,rfl,f0,t_,hf⟩)
 refine⟨cx,?_,f0,hf⟩;simp[Mc,Uf,Lp,Cg,sSeq,Ac,Ag,fC,Rp,Ey,Aa,Bk,e]
abbrev letters:Str:=" abcXYZ.,;!019~[]\\\"'|{}<>@#$&*()-+/=_^:?`"
def tG:oB!=41:=by decide+kernel
def b0e:letters.cps.toList.all Lw=true:=by decide+kernel
def b5v:(ds_).cps=#[]:=by decide+kernel
def a0h:(ds_).length=0:=by decide+kernel
def Ox(c:Nat):D:=.str ar_
def a4s:∀(xs:b!),(∀x∈xs,∃c,x=Ox c/\Lw c=true)->∃cs:List Nat,xs=cs.map Ox/\cs.all Lw=true
 |[],_=>w2!
 |x::xs,h=>by
  obtain⟨c,rfl,hc⟩:=h x HV;obtain⟨cs,rfl,px⟩:=a4s xs λy hy=>h y d7!
  exact⟨c::cs,rfl,by simp only[NR,hc,px,MU]⟩
def rC:∀(cs:m_),Qf kh!=some hm!
 |[]=>rfl
 |c::cs=>by simp only[HZ,Ox,Qf];rw[show List.map Ox cs=List.map Ox cs from rfl,rC cs];rfl
def a7h:∀(cs:m_) (acc:Array Nat),(hm!).foldl (λacc p=>acc++(ds_).cps++p.cps) acc=acc++cs.toArray
 |[],acc=>by simp
 |c::cs,acc=>by
  rw[HZ,List.foldl_cons,a7h cs,b5v];simp
def b9z(cs:m_):Txt.join ds_ hm!=oC!:=by
 unfold Txt.join Builtin.Str.glued;cases cs with
 |nil=>rfl
 |cons c cs=>
  simp only[HZ,List.drop_succ_cons,List.drop_zero,List.headD_cons];rw[a7h];simp
def a0z:∀(cs:m_),((hm!).map (·.length)).sum=cG!
 |[]=>rfl
 |c::cs=>by
  have ih:=a0z cs;simp only[HZ,List.sum_cons,IH];rw[ih];show 1+cG!=_;omega
def c2e{n most:Int}(B:1<=most)(h16:most<=16):∃s,Og [aP_,.int most]=some aE_/\Ul s=true/\1<=aE!/\aE!<=16:=by
 have WG:0<=n%most:=KP _ a!;have wz:n%most<most:=JX _ a!;obtain⟨N,hN⟩:∃N:Nat,(N:Int)=1+n%most:=⟨(1+n%most).toNat,t_⟩;have hN1:1<=N:=by omega
 have hN2:N<=16:=by omega
 obtain⟨ys,e,l,L⟩:=mT (ρ:=w4!) (bnd:=Bm 0) (ft:=oC_) (fe:=f2 Ai x! tb_)
  (λy=>∃c,y=Ox c/\Lw c=true) fs! (by
   intro d hd;unfold Dp at hd;obtain⟨i,hi,rfl⟩:=IP.mp hd;have c8:=NY.mp hi;have z1:(0:Int)<1+3*(i:Int):=by omega
   have z2:1+3*(i:Int)<1073741824:=by omega
   have am:oB!<=big:=by rw[tG];decide
   have hsz:((w5!:Nat):Int)=41:=by
    have:w5!=41:=by rw[<-tG];simp[Str.length]
    omega
   obtain⟨c,ec,hc⟩:=a4f (xs:=letters.cps.toList) (i:=n / (1+3*(i:Int))%41) (KP _ c_) (by rw[hsz];exact JX _ c_);have nj:Ai oD! (.int (n / (1+3*(i:Int))%41))=some (Ox c):=by
    show(if oB!<=big then(Cw letters.cps.toList _).map _ else none)=_;rw[IA am,ec];rfl
   refine⟨_,true,rfl,rfl,λ_=>⟨Ox c,?_,c,rfl,LG.mp b0e c hc⟩⟩;simp[Bm,f2,Aa,fC,Al,Eh,Du,Um,Ci,Bn,z1,z2,nj])
 have l2:=tV e;obtain⟨cs,rfl,px⟩:=a4s ys L;have b8:cG!=N:=by simpa[Dp]using l2
 have hrng:-1000<=(N:Int)/\(N:Int)<=100000:=by omega
 have hc:Fa 1 [0,2] (Em mO!) J! a6! tc! w7!=some (.lst kh!):=by
  have hi:Em mO! w7!=some fs!:=by
   simp[Em,f2,fC,Aa,Bn,Du,show 0<most by omega,Al,<-hN,hrng]
  unfold Fa;rw[hi];show(if(fs!).length<=big then Option.map D.lst (Ej _ _ _ w4! fs!)else none)=_;rw[IA (by simp[Dp,big];omega),e];rfl
 have hj:Nf iV_ (.lst kh!)=some (.str oC!):=by
  unfold Nf;simp only[rC,LX,a0z,IF,a0h,Nat.mul_zero,Nat.add_zero,b9z];rw[ds!]
 refine⟨oC!,?_,?_,?_,?_⟩
 .simp[Og,Wa,Cg,sSeq,Cn,fC,Bk,Xw,hc,hj]
 .simp only[Ul,Str.length,HX,px,Bool.and_true,JE];omega
 .simp only[Str.length,HX];omega
 .simp only[Str.length,HX];omega
def HH:Ad->Option Fl:=tc_
def HG:Ad->Option Fl:=td_
def HF:Ad->Option Fl:=te!
def HE:Ad->Option Fl:=tg!
def GJ:Ad->Option Fl:=th!
def HD:Ad->Option Fl:=th_
def HC:Ad->Option Fl:=tj_
def HB:Ad->Option Fl:=tl!
def HA:Ad->Option Fl:=tl_
def GZ:Ad->Option Fl:=tm_
def CS:Ad->Option Fl:=tn!
def CQ:Ad->Option Fl:=tp_
def AU:Ad->Option Fl:=tr!
def Zd:Ad->Option Fl:=ts!
nonrec def dq14:Ad->Option Fl:=tu_
nonrec def dq15:Ad->Option Fl:=tv_
def DP:Ad->Option Fl:=(sSeq HB (sSeq HA (sSeq GZ (sSeq CS w9_))))
def b4k:Qa=(sSeq HH (sSeq HG (sSeq HF (sSeq HE (sSeq GJ (sSeq HD (sSeq HC DP))))))):=rfl
def bL{q1 q2:aS!}{ρ ρ':Ad}(h:q1 ρ=some cP!):sSeq q1 q2 ρ=q2 ρ':=by simp[sSeq,h]
def oH{q1 q2:aS!}{ρ:Ad}(h:q1 ρ=some bq!):sSeq q1 q2 ρ=some bq!:=by simp[sSeq,h]
def iI{f:e!}{ρ:Ad}{i:Nat}(h:cl!):Cn i f ρ=some pN!:=by simp[Cn,h]
abbrev kinds:List D:=[j8!,j8!,j8!,ov!,ov!,j8_,j8_,.str "cut",j9!,ov_,.str "redo",.str "drop"]
def KindOk(k:Str):Prop:=k="put"\/k="move"\/k="write"\/k="cut"\/k="set"\/k="undo"\/k="redo"\/k="drop"
def a7x{α:Type}{xs:N_}{lo hi:a9_}{x:α}(h:x∈Di xs lo hi):x∈xs:=List.mem_of_mem_drop (List.mem_of_mem_take h)
def Rb:D->D
 |.str _=>.non
 |d=>d
def a6x(h:Cz d\/d=.non):(Fq "str" d=some true/\Rb d=.non)\/(Fq "str" d=some false/\Rb d=d/\Mt d):=by
 rcases h with(rfl|rfl|⟨a,b,rfl,h⟩)|rfl
 .exact .inl bN_
 .exact .inl bN_
 .exact .inr ⟨rfl,rfl,.inr ⟨a,b,rfl,h⟩⟩
 .exact .inr ⟨rfl,rfl,cY!⟩
def c9c(ns:z!){base most:Int}{ops:b!}(h:j9_)(hl:ka_):∃m0 its item jb k,0<=m0/\its≠[]/\(∀x∈its,Cz x)/\Cz item/\Mt jb/\KindOk k/\
  Qa xa_=DP oE_:=by
 obtain⟨m0,e0,p0,_⟩:=jJ ns (k:=base);obtain⟨m1,e1,_,_⟩:=jJ ns (k:=base+1);obtain⟨m2,e2,_,_⟩:=jJ ns (k:=base+2);obtain⟨its,ei,i3,i200,ou⟩:=c0c h hl;have ow:its≠[]:=by intro z;subst z;simp at i3
 have rl:xb!≠[]:=by
  intro z;have z2:=congrArg List.length z;simp[Di,HT.sIx]at z2;omega
 have b8:(xd!).length+(xc_).length<=big:=by
  simp[Di,HT.sIx,big];omega
 obtain⟨item,ep,mp⟩:=nA (n:=m1) rl;have ox:Cz item:=by
  obtain z|z:=HU.mp mp
  .exact ou _ (a7x z)
  .exact ou _ (a7x z)
 have a1:Al (.lst xd!) (.lst xc_)=some (.lst xb!):=by
  show hn_;rw[IA b8]
 have a2:Al ow! (.lst iW_)=some (.lst (its++iW_)):=by
  show(if gO!+2<=big then _ else none)=_;rw[ds!]
 obtain⟨oth,eo,mo⟩:=nA (n:=m2) (xs:=its++iW_) d_;have um:Cz oth\/oth=.non:=by
  obtain z|z:=HU.mp mo
  .exact .inl (ou _ z)
  .simp at z;exact .inr z
 have gr:Mt (Rb oth):=by
  obtain⟨_,z⟩|⟨_,z,y⟩:=a6x um
  .rw[z];exact .inl rfl
  .rw[z];exact y
 obtain⟨kd,ek,mk⟩:=a4f (xs:=kinds) (i:=m0%12) (KP _ c_) (by show _<(12:Int);exact JX _ c_);obtain⟨k,rfl,hk⟩:∃k,kd=.str k/\KindOk k:=by
  simp[kinds]at mk;unfold KindOk;obtain rfl|rfl|rfl|rfl|rfl|rfl|rfl|rfl:=mk<;>exact⟨_,rfl,G_⟩
 have ek':Ai (.lst kinds) (.int (m0%12))=some U_:=ek;refine⟨m0,its,item,Rb oth,k,p0,ow,ou,ox,gr,hk,?_⟩;rw[b4k];rw[bL (ρ':=[z_,au_,aF!,br!,bY!,none,none,none,none,none,none,none]) (iI (by simp[f1,Ac,Aa,Ag,e0]))];rw[bL (ρ':=[z_,au_,aF!,br!,bY!,cn!,none,none,none,none,none,none]) (iI (by simp[f1,Ac,Aa,Ag,ei]))];rw[bL (ρ':=[z_,au_,aF!,br!,bY!,cn!,cK!,none,none,none,none,none]) (iI (by
  have b1:Al kj_ ay_=some (.int (base+1)):=rfl;simp[f1,Ac,Aa,Ag,f2,Eo,Bl,At,Ax,fC,a1,b1,e1,ep]))]
 rw[bL (ρ':=[z_,au_,aF!,br!,bY!,cn!,cK!,some oth,none,none,none,none]) (iI (by
  have b1:Al kj_ bf_=some (.int (base+2)):=rfl;simp[f1,Ac,Aa,Ag,f2,fC,a2,b1,e2,eo]))]
 rw[bL (ρ':=[z_,au_,aF!,br!,bY!,cn!,cK!,oG_,none,none,none,none]) (by
  obtain⟨z1,z2⟩|⟨z1,z2,_⟩:=a6x um<;>simp[GJ,Gg,fT,Ee,Aa,z1,z2,Ct,Cn,fC])]
 rw[bL (ρ':=[z_,au_,aF!,br!,bY!,cn!,cK!,oG_,fs_,none,none,none]) (iI gU_)];rw[bL (ρ':=[z_,au_,aF!,br!,bY!,cn!,cK!,oG_,fs_,some U_,none,none]) (iI (by simp[f2,Aa,fC,Bn,Du,ek']))]
section
variable{ρ:Ad}
def b5q{c:ad!}{a b:aS!}(h:c ρ=some true):Gg c a b ρ=a ρ:=by unfold Gg;rw[h];rfl
def iD{c:ad!}{a:aS!}(h:c ρ=some false):Gg c a Ct ρ=some aM_:=by unfold Gg;rw[h];rfl
def qS{i:Nat}{b:Bool}(h:Aa i ρ=some U_)(e:(k==s)=b):fT (f2 Aw (Aa i) (fC aE_)) ρ=some b:=by unfold fT f2 fC;rw[h];show(Aw U_ aE_).bind _=_;rw[gV,e];rfl
def dH{f:e!}{fs:as_}(h:cl!)(g:ho!):Ac f fs ρ=some ed_:=by unfold Ac;rw[h,g];rfl
def oM{fs:as_}{ds:b!}(h:ho!)(hl:xi!):Bk (Az fs) ρ=some (.rt dk_):=by unfold Bk Az;rw[h];show Option.map _ xi_=_;rw[xj!];rfl
def xN{g:ai!}{fs:as_}(h:ho!)(e:g ds=some d):f1 g fs ρ=some d:=by unfold f1;rw[h];exact e
def gK{g:a1_}{f1 f3:e!}(h:f1 ρ=some x)(k:f3 ρ=some y)(e:g x y=some d):f2 g f1 f3 ρ=some d:=by unfold f2;rw[h,k];exact e
def a6f{ns:z!}{base j m:Int}(h:xk!)(g:Aa 1 ρ=some kj_)(e:Bi [bH!,.int (base+j)]=some bF!):f1 Bi (Ac l! (Ac (f2 Al u_ (fC dl!)) Ag)) ρ=some bF!:=
 xN (dH h (dH (gK g rfl rfl) rfl)) e
def b7w{m:Int}{f h:e!}(a:f ρ=some R!)(b:h ρ=some bF!)(e:Dv [.lst xs,ef_]=some p):f1 Dv (Ac f (Ac h Ag)) ρ=some p:=
 xN (dH a (dH b rfl)) e
end
def a9y{i j:Int}(h:0<j):Bn by_ dl!=some (.int (i%j)):=by show(if decide (0<j)=true then _ else _)=_;rw[IA (IT h)]
def c4x(ns:z!){base most:Int}{ops:b!}(h:j9_)(hl:ka_)(wz:1<=most)(hm16:most<=16):∃d,Kq xl!=some d/\DG d:=by
 obtain⟨m0,its,item,jb,k,p0,ow,ou,ox,um,hk,hA⟩:=c9c ns (base:=base) (most:=most) h hl;have fin:∀d,DP oE_=some bq!->Kq xl!=some d:=λd e=>by
  unfold Kq Cg;rw[gV_];show(match Qa xa_ with|some (.rt d)=>some d|some (.nx _)=>some .non|none=>none)=_;rw[hA,e]
 clear hA;obtain⟨m1,e1,_,_⟩:=jJ ns (k:=base+1);obtain⟨m3,e3,_,_⟩:=jJ ns (k:=base+3);obtain⟨m4,e4,_,_⟩:=jJ ns (k:=base+4);obtain⟨m5,e5,_,_⟩:=jJ ns (k:=base+5);obtain⟨p1,ep1,mp1⟩:=nA (n:=m1) ow;obtain⟨p3,ep3,mp3⟩:=nA (n:=m3) ow;obtain⟨ss,es,z6,hss⟩:=b6p h hl;obtain⟨sg,eg,mg⟩:=nA (n:=m4) z6;have WJ:=hss _ mg;obtain⟨tx,et,ht1,ht0,w9⟩:=c2e (n:=m5) wz hm16;have uo:∀{k:Str},CS oE_=some (.nx oH_):=
  iI (xN (dH (xN oI! es) (dH (a6f rfl rfl e4) rfl)) eg)
 have WK:∀{k:Str},xm_=true->Zd oH_=some (.rt xn!):=λ{k} e=>
  (b5q (by unfold fT;rw[xn_,e];rfl)).trans (oM rfl rfl)
 have WL:DG xn!:=.set ox a! a! a!;obtain⟨nm,nn,hun⟩:∃nm,NameG nm/\∀{k:Str},("put"==k)=false->sSeq dq14 dq15 [some (scr ns),some (.int base),some (.lst ops),some (.int most),some (.int m0),some (.lst its),some item,some jb,some (.lst kinds),some (.str k),some sg,none]=some (.rt (.tup [.str k,nm])):=by
  obtain⟨ys,e,l,L⟩:=mT (ρ:=dq_) (bnd:=Bm 0) (ft:=oC_) (fe:=Az gv!)
   (wW!) ops (by
    intro o ho;obtain⟨h',n,tm,d,rfl,b1,b2,b3,b4,_⟩:=h o ho;exact⟨_,true,rfl,rfl,λ_=>⟨_,rfl,wW_⟩⟩)
  have a1:Al ba! (.lst oI_)=some (.lst (ys++oI_)):=by
   show(if ac_+1<=big then _ else none)=_;rw[ds!]
  obtain⟨nm,en,mn⟩:=nA (n:=m1) (xs:=ys++oI_) d_;refine⟨nm,?_,λ{k} _=>(bL (iI (gK ?_ rfl a1))).trans (oM (dH rfl (dH (b7w rfl xr_ en) rfl)) rfl)⟩
  .obtain z|z:=HU.mp mn
   .exact L _ z
   .simp at z;subst z;exact⟨_,_,rfl,ag_,ag_,t_,t_⟩
  .show wX!;rw[ds!,e];rfl
 have xa:∀{k:Str},("put"==k)=false->(k=="write")=false->(k=="cut")=false->xm_=false->(w9_) oH_=some (.rt (.tup [.str k,nm])):=λ{k} e0 w c s=>
  (bL (iD (qS rfl w))).trans ((bL (iD (by unfold Co;rw[qS rfl c];rfl))).trans ((bL (iD (by unfold fT;rw[xn_,s];rfl))).trans (hun e0)))
 unfold KindOk at hk;obtain rfl|rfl|rfl|rfl|rfl|rfl|rfl|rfl:=hk
 .exact⟨_,fin _ (oH ((kn!).trans (oM (dH rfl (dH (b7w rfl xr_ ep1) rfl)) rfl))),.put (ou _ mp1) um⟩
 .exact⟨_,fin _ ((bL (iD (qS rfl jA))).trans (oH ((kn!).trans (oM (dH rfl (dH rfl (dH (b7w rfl (a6f rfl rfl e3) ep3) rfl))) rfl)))),.move ox (ou _ mp3) um⟩
 all_goals first|(refine⟨_,fin _ ((bL (iD (qS rfl jB))).trans ((bL (iD (qS rfl iH))).trans (oH ((kn!).trans (oM rfl rfl))))),.drop ox⟩;done)|skip
 .exact⟨_,fin _ ((bL (iD (qS rfl kS))).trans ((bL (iD (qS rfl jK))).trans ((bL (iD (qS rfl jL))).trans ((hr!).trans
   (oH ((kn!).trans (oM (dH rfl (dH rfl (dH rfl (dH (xN (dH (a6f rfl rfl e5) rfl) et) rfl)))) rfl))))))),.write ox WJ ht1 ht0 w9⟩
 .have go:DP [z_,au_,aF!,br!,bY!,cn!,cK!,kk!,fs_,some dM_,none,none]=sSeq AU w9! [z_,au_,aF!,br!,bY!,cn!,cK!,kk!,fs_,some dM_,some sg,none]:=(bL (iD (qS rfl oY))).trans ((bL (iD (qS rfl mJ))).trans ((bL (iD (qS rfl mK))).trans ((hr!).trans (bL (iD (qS rfl kW))))));obtain rfl|⟨a,b,c,rfl,B,Y,h3,h4,c0,c15⟩:=WJ
  .exact⟨_,fin _ (go.trans ((bL (iD xG!)).trans (oH (WK rfl)))),WL⟩
  .have hc:0<16 - c:=by omega
   have q1:0<=m0 / 12%(16 - c):=KP _ a!;have q2:m0 / 12%(16 - c)<16 - c:=JX _ hc;exact⟨_,fin _ (go.trans (oH ((b5q xG!).trans (oM (dH rfl (dH rfl (dH rfl (dH (gK rfl (gK rfl rfl (a9y hc)) rfl) rfl)))) rfl)))),.cut ox ⟨a,b,c,rfl,B,Y,h3,h4,c0,c15⟩ a! a!⟩
 .exact⟨_,fin _ ((bL (iD (qS rfl oW))).trans ((bL (iD (qS rfl mH))).trans ((bL (iD (qS rfl mI))).trans ((hr!).trans ((bL (iD (qS rfl kU))).trans ((bL (iD (by unfold Co;rw[qS rfl oX];rfl))).trans (oH (WK u!)))))))),WL⟩
 .exact⟨_,fin _ ((bL (iD (qS rfl tI))).trans ((bL (iD (qS rfl qD))).trans ((bL (iD (qS rfl qE))).trans ((hr!).trans (xa tM oB tJ u!))))),.undo nn⟩
 .exact⟨_,fin _ ((bL (iD (qS rfl tK))).trans ((bL (iD (qS rfl qG))).trans ((bL (iD (qS rfl qH))).trans ((hr!).trans (xa tN oC tL u!))))),.redo nn⟩
def fQ(h:Cz d):Ei d=true:=by obtain rfl|rfl|⟨a,b,rfl,_⟩:=h<;>simp[Ei,Fd]
def zC(h:Mt d):Ei d=true:=by obtain rfl|⟨a,b,rfl,_⟩:=h<;>simp[Ei,Fd]
def wG(h:NameG d):Ei d=true:=by obtain⟨a,b,rfl,_⟩:=h;simp[Ei,Fd]
def a8r(h:Kz d):Ei d=true:=by obtain rfl|⟨a,b,c,rfl,_⟩:=h<;>simp[Ei,Fd]
def b0q(h:DG d):Ei d=true:=by
 cases h with
 |put B Y=>simp[Ei,Fd,fQ B,zC Y]
 |move B Y h3=>simp[Ei,Fd,fQ B,fQ Y,zC h3]
 |drop B=>simp[Ei,Fd,fQ B]
 |write B Y=>simp[Ei,Fd,fQ B,a8r Y]
 |cut B=>simp[Ei,Fd,fQ B]
 |set B=>simp[Ei,Fd,fQ B]
 |undo B=>simp[Ei,Fd,wG B]
 |redo B=>simp[Ei,Fd,wG B]
abbrev Vu:Ad->Option Fl:=(sSeq tx!
 (sSeq tx_
 (sSeq ty!
 (sSeq tz_
 (sSeq tA!
 tB_)))))
end K11
namespace K11
open PySem L2 DL
open Classical
inductive Tj(W:OW)(n:D):D->OW->Prop
 |put {a b:D} {rows':h_}:Cz a->Mt b->Rl W.rows n dp_ b rows'->Tj W n em! bb_
 |mvY {a b c:D} {rows':h_}:Cz a->Cz b->Mt c->xK!->Rl W.rows a b c rows'->Tj W n hi_ {W with rows:=rows'}
 |mvN {a b c:D}:Cz a->Cz b->Mt c->¬xK!->Tj W n hi_ W
 |drY {a:D} {rows':h_}:Cz a->xK_->Rl W.rows a binn .non rows'->Tj W n hj! {W with rows:=rows'}
 |drN {a:D}:Cz a->¬xK_->Tj W n hj! W
 |wrt {a b:D} {s:Str} {h m:Int}:Cz a->Kz b->aE!<=16->n=.tup cn_->Tj W n fp_ (if a∈W.its then setT W a xL! else W)
 |cut {a:D} {x y z m:Int}:Cz a->0<=z->1<=m->z+m<=16->Tj W n (.tup [.str "cut",a,.tup [.int x,.int y,.int z],.int m]) (if a∈W.its then setT W a (cutT ((List.range m.toNat).map λk=>.tup g4_) av!)else W)
 |set {a:D} {p v:Int}:Cz a->0<=p->p<=3->Tj W n ks_ (if a∈W.its then Tz W a kt! else W)
def cN(h:Cz x):∃k,Dc x=some k:=by
 obtain rfl|rfl|⟨a,b,rfl,_⟩:=h
 .exact I_
 .exact I_
 .exact I_
def vI(h:Mt x):∃k,Dc x=some k:=by
 obtain rfl|⟨a,b,rfl,_⟩:=h
 .exact I_
 .exact I_
def b3w(h:Kz x):∃k,Dc x=some k:=by
 obtain rfl|⟨a,b,c,rfl,_⟩:=h
 .exact I_
 .exact I_
structure Vc(W:OW)(pre:b!):Prop where
 inv:By W
 its:∀x∈W.its,x∈pre
 sgs:∀x∈W.its,∀q∈W.txt x,∃h n k,q.1=.tup xN!/\D.tup U!∈pre
 chr:∀x∈W.its,∀q∈W.txt x,∃c:Nat,q.2.1=.str ar_
section
variable{t:Ar}{M:Mh}{o:xz!}{rl:Addr->Pc}{W W':OW}{h1:Nat}{R:D->Mh->Prop}{pre:List D}
def pK{h n:Int}{s:Str}{q:fd!}(hq:q∈s.cps.toList.zipIdx.map eg_):∃c k:Nat,q=(.tup oM_,.str ar_,true):=by obtain⟨⟨c,k⟩,_,rfl⟩:=IP.mp hq;exact⟨c,k,rfl⟩
def b1l(h n:Int):∀(cs:m_) (k0:Nat),(((xN_).map b_)).Nodup/\∀k:Nat,k<k0->D.tup oM_∉(xN_).map b_
 |[],k0=>by simp
 |c::cs,k0=>by
  obtain⟨B,Y⟩:=b1l h n cs (k0+1);rw[OA];simp only[HZ];refine⟨IN.mpr ⟨Y k0 a!,B⟩,λk hk z=>?_⟩;obtain z|z:=HQ.mp z
  .simp[sgn]at z;omega
  .exact Y k a! z
def b6m{h m:Int}(hs:Tj W kt_ d W')(w:fv!)(hn:xO!):Vc W' xO_:=by
 have keep:∀{V:OW},V.its=W.its->V.txt=W.txt->By V->Vc V xO_:=λ{V} e1 e2 wi=>by
  refine⟨wi,aZ_,ku!,ku!⟩
  .rw[e1]at O;exact IS _ (w.its x O)
  .rw[e1]at O;rw[e2]at hq;obtain⟨a,b,c,e,hm⟩:=w.sgs x O q hq;exact⟨a,b,c,e,IS _ hm⟩
  .rw[e1]at O;rw[e2]at hq;exact w.chr x O q hq
 cases hs with
 |put y1 y2 hg=>
  rename_i a b rows';have ni:D.tup cn_∉W.its:=λz=>hn (w.its _ z);have hp:Ft W dp_:=by split;assumption;exact .inr gN!
  have im:∀x,x∈(xP!).its↔x∈W.its\/x=.tup cn_:=λx=>by simp[Gi]
  have tx:∀x,(xP!).txt x=if x=.tup cn_ then[]else W.txt x:=λx=>rfl
  refine⟨hg.winv_put w.inv ni bD_ hp,aZ_,ku!,ku!⟩
  .obtain z|rfl:=(cB_).mp O
   .exact IS _ (w.its x z)
   .simp
  .rw[tx]at hq;by_cases e:x=.tup cn_
   .rw[IA e]at hq;cases hq
   .rw[HR e]at hq;obtain⟨a,b,c,e',hm⟩:=w.sgs x xP_ q hq;exact⟨a,b,c,e',IS _ hm⟩
  .rw[tx]at hq;by_cases e:x=.tup cn_
   .rw[IA e]at hq;cases hq
   .rw[HR e]at hq;exact w.chr x xP_ q hq
 |mvY _ _ _ hc hg=>exact keep rfl rfl xQ!
 |mvN _ _ _ hc=>exact keep rfl rfl w.inv
 |drY _ hc hg=>exact keep rfl rfl xQ!
 |drN _ hc=>exact keep rfl rfl w.inv
 |wrt y1 y2 y3 e=>
  rename_i a b s h' m';cases e;by_cases c:a∈W.its
  .rw[IA c];obtain⟨U,v,e1,e2,e3⟩:=rB b hs! av!;have mem:∀q,q∈wrT b hs! av!↔q∈W.txt a\/q∈s.cps.toList.zipIdx.map ks!:=λq=>by
    rw[e2,e1];simp only[HU];constructor<;>(intro z;rcases z with(z|z)|z<;>simp[z])
   have fresh:∀x∈W.its,∀q∈W.txt x,∀k:Int,q.1≠.tup [aR!,ef_,hh_]:=λx O q hq k z=>by
    show"![";rw[e']at z;cases z;exact hn hm
   have tx:∀x,(xQ_).txt x=if x=a then wrT b hs! av! else W.txt x:=λx=>rfl
   have all:∀(P:D×D×Bool->Prop),(∀x∈W.its,∀q∈W.txt x,P q)->(∀q∈s.cps.toList.zipIdx.map ks!,P q)->∀x∈W.its,∀q∈(xQ_).txt x,P q:=λP B Y x O q hq=>by
    rw[tx]at hq;by_cases e:x=a
    .rw[IA e]at hq;obtain z|z:=(mem q).mp hq
     .exact B a c q z
     .exact Y q z
    .rw[HR e]at hq;exact B x O q hq
   refine⟨rE w.inv c ?_ ed! nT_,λx O=>IS _ (w.its x O),all _ (λx O q hq=>?_) ed!,all _ w.chr ed!⟩
   .rw[e2];have nd:=w.inv.snd a c;rw[e1]at nd;obtain⟨n1,_⟩:=b1l h m s.cps.toList 0;have dj:∀q∈W.txt a,∀q'∈s.cps.toList.zipIdx.map ks!,q.1≠q'.1:=λq hq q' a9=>by
     obtain⟨c',k',rfl⟩:=pK a9;exact fresh a c q hq _
    simp only[IW]at nd ⊢;rw[JB]at nd;rw[JB,JB];refine⟨⟨nd.1,n1,jB_⟩,nd.2.1,jB_⟩
    .obtain⟨q,hq,rfl⟩:=IP.mp O;obtain⟨q',a9,rfl⟩:=IP.mp hy;exact dj q (by rw[e1];exact IS _ hq) q' a9
    .obtain O|O:=HU.mp O
     .exact nd.2.2 x O y hy
     .obtain⟨q',a9,rfl⟩:=IP.mp O;obtain⟨q,hq,rfl⟩:=IP.mp hy;exact HY (dj q (by rw[e1];exact II _ hq) q' a9)
   .obtain z|z:=(mem q).mp hq
    .exact w.inv.sg a c q z
    .obtain⟨c',k',rfl⟩:=pK z;exact v6!
   .obtain z|z:=(mem q).mp hq
    .exact(w.inv.su a c y hy q z q' a9 e).symm
    .obtain⟨c',k',rfl⟩:=pK z;exact absurd e.symm (fresh y hy q' a9 _)
   .show"![";exact oP_
   .obtain⟨c',k',rfl⟩:=pK hq;exact⟨_,_,_,rfl,G_⟩
   .obtain⟨c',k',rfl⟩:=pK hq;exact I_
  .show"!~"
 |cut y1 y2 y3 y4=>
  rename_i a x y z m';by_cases c:a∈W.its
  .rw[IA c];have tx:∀v,(setT W a (cutT xS_ av!)).txt v=if v=a then cutT xS_ av! else W.txt v:=λx=>rfl
   refine⟨a0m w.inv c _,λv hv=>IS _ (w.its v hv),xU!,xU!⟩
   .rw[tx]at hq;split at hq
    .show"!:";obtain⟨a',b',c',e',hm⟩:=w.sgs a c q0 h0;exact oP_
    .obtain⟨a',b',c',e',hm⟩:=w.sgs v hv q hq;exact oP_
   .rw[tx]at hq;split at hq
    .show"!:";exact w.chr a c q0 h0
    .exact w.chr v hv q hq
  .show"!~"
 |set y1 y2 y3=>
  rename_i a p v;by_cases c:a∈W.its
  .rw[IA c];exact keep rfl rfl (b3y w.inv (by rw[LO];exact w.inv.nl a c))
  .show"!~"
end
def b9u:(Str.ofString "put"==Str.ofString "put")=true:=by decide+kernel
def a3g:(Str.ofString "move"==Str.ofString "move")=true:=by decide+kernel
def a3h:(Str.ofString "drop"==Str.ofString "drop")=true:=by decide+kernel
def a6u:(Str.ofString "write"==Str.ofString "write")=true:=by decide+kernel
def b9v:(Str.ofString "cut"==Str.ofString "cut")=true:=by decide+kernel
def b9t:(Str.ofString "set"==Str.ofString "set")=true:=by decide+kernel
section
variable{t:Ar}{M:Mh}{o:xz!}{rl:Addr->Pc}{W W':OW}{h1:Nat}{R:D->Mh->Prop}{pre:List D}
def ifT{ft:ad!}{q1 q2:WS}{ρ:Ad}{R:j_}(h:xY_)(k:q1 ρ M R):Aq (Da ft) q1 q2 ρ M R:=by simp only[Aq,Da,h];exact k
def iU{ft:ad!}{q1 q2:WS}{ρ:Ad}{R:j_}(h:xX!)(k:fw!):Aq (Da ft) q1 q2 ρ M R:=by simp only[Aq,Da,h];exact k
def bA:(fT (f2 Aw bi_ (fC oS!))) [F_,ek!,some eo_]=some ku_:=by
 have e:Ai eo_ O!=some U_:=by
  show oS_;show"!n"
 simp[fT,f2,Aa,fC,e,gV]
def ix1:Ai oT! ay_=some a:=by show Cw (D.str k::a::r) 1=_;unfold Cw Ea;rw[S_,ep!];simp
def ix2:Ai oT_ bf_=some b:=by show Cw (D.str k::a::b::r) 2=_;unfold Cw Ea;rw[S_,ep!];simp
def ix3:Ai oU_ bg!=some c:=by show Cw (D.str k::a::b::c::r) 3=_;unfold Cw Ea;rw[S_,ep!];simp
def ax1:f2 Ai x! v_ [F_,ek!,some oT!]=some a:=ix1
def ax2:f2 Ai x! T! [F_,ek!,some oT_]=some b:=ix2
def ax3:f2 Ai x! ab_ [F_,ek!,some oU_]=some c:=ix3
def av0:Aa 0 x0_=some ag!:=rfl
def av1:Aa 1 x0_=some n:=rfl
def gG{f:WE}{ρ:Ad}{R:j_}(k:f ρ M λ_ M1=>R aM_ M1):Bu f ρ M R:=k
def wJ{g:WF}{fo f1 f2 f3:e!}{ρ:Ad}(h0:fo ρ=some d)(B:fm!)(Y:hf!)(h3:oV!)(ho:k7_)(k:g [d,a,b,c] M R):Ba C m 4 g cH_ (Ab j0_ (Ab (wl f2) (Ab (wl f3) Af))) ρ M R:=by simp only[Ba,wl,Ab,Af,h0,B,Y,h3];exact om!
def d1k{g:WF}{fo f1 f2 f3 f4:e!}{ρ:Ad}(h0:fo ρ=some d)(B:fm!)(Y:hf!)(h3:oV!)(h4:f4 ρ=some e)(ho:k7_)(k:g [d,a,b,c,e] M R):Ba C m 5 g cH_ x1! ρ M R:=by simp only[Ba,wl,Ab,Af,h0,B,Y,h3,h4];exact om!
def c3a{h m:Int}(hO:aC_)(w:fv!)(hn:xO!)(hs:Tj W kt_ d W')(hB:g4!)
  (hR:∀M' ae,Ce t M' o ae W' bo_->Fr M rl M' ae->R .non M'):Nl t [bc!,.tup cn_,d] M R:=by
 have z7:=hO;obtain⟨a1,a2,a3,a4,a5,a6,k1,k2,k3,k4,k5,k6,hA⟩:=z7;have fresh:∀x∈W.its,∀k':Nat,D.tup [aR!,ef_,.int (k':Nat)]∉(aK_).map b_:=λx O k' z=>by
  obtain⟨q,hq,e⟩:=IP.mp z;show"![";rw[e']at e;cases e;exact hn hm
 refine k!;show Xj t [F_,some kt_,some d] M _;cases hs with
 |put ha hb hg=>
  show"!1";obtain⟨kb,kz⟩:=vI hb;refine ifT (bA.trans (congrArg some b9u)) ?_;exact gG (wJ av0 av1 ax1 ax2 (hA.noOb oM4) (c7c hO w.inv (λz=>hn (w.its _ z)) bD_ bi kz hB hg hR))
 |mvY ha hb bu hc hg=>
  show"!J";exact gG (wJ av0 ax1 ax2 ax3 kv_ (uO hO w.inv bi kz z8 hB λM' f1 _ fr=>hR M' rl (f1 hc _ hg) fr))
 |mvN ha hb bu hc=>
  show"!J";exact gG (wJ av0 ax1 ax2 ax3 kv_ (uO hO w.inv bi kz z8 hB λM' _ f1 fr=>hR M' rl (f1 hc) fr))
 |drY ha hc hg=>
  show"!}";exact gG (wJ av0 ax1 rfl rfl kv_ (uO hO w.inv bi (kx:=oV_) rfl (ks:=none) rfl hB λM' f1 _ fr=>hR M' rl (f1 hc _ hg) fr))
 |drN ha hc=>
  show"!}";exact gG (wJ av0 ax1 rfl rfl kv_ (uO hO w.inv bi (kx:=oV_) rfl (ks:=none) rfl hB λM' _ f1 fr=>hR M' rl (f1 hc) fr))
 |wrt ha hb c9 e=>
  cases e;show"!1";obtain⟨kb,kz⟩:=b3w hb;refine iU (bA.trans (congrArg some kS)) ?_;refine iU (bA.trans (congrArg some jK)) ?_;refine iU (bA.trans (congrArg some jL)) ?_;refine ifT (bA.trans (congrArg some a6u)) ?_;exact gG (d1k av0 av1 ax1 ax2 ax3 (hA.noOb oM7) (b6d hO w.inv bi kz hB c9 fresh λM' f1 _ fr=>hR M' rl f1 fr))
 |cut ha b5 B Y=>
  show"!1";refine iU (bA.trans (congrArg some oY)) ?_;refine iU (bA.trans (congrArg some mJ)) ?_;refine iU (bA.trans (congrArg some mK)) ?_;refine iU (bA.trans (congrArg some kW)) ?_;refine ifT (bA.trans (congrArg some b9v)) ?_;exact gG (wJ av0 ax1 ax2 ax3 (hA.noOb oM8) (c9h hO w.inv bi hB b5 B Y λM' f1 fr=>hR M' rl f1 fr))
 |set ha B Y=>
  show"!1";refine iU (bA.trans (congrArg some oW)) ?_;refine iU (bA.trans (congrArg some mH)) ?_;refine iU (bA.trans (congrArg some mI)) ?_;refine iU (bA.trans (congrArg some kU)) ?_;refine iU (bA.trans (congrArg some oX)) ?_;refine ifT (bA.trans (congrArg some b9t)) ?_;exact gG (wJ av0 ax1 ax2 ax3 (hA.noOb oM9) (yA hO w.inv bi B Y λM' f1 fr=>hR M' rl (f1.mono a!) fr))
def c3b{k:Str}(hk:x7_)(hR:R .non M):Nl t [bc!,n,.tup oW_] M R:=by
 refine k!;obtain rfl|rfl:=hk
 .refine iU (bA.trans (congrArg some tI)) ?_;refine iU (bA.trans (congrArg some qD)) ?_;refine iU (bA.trans (congrArg some qE)) ?_;refine iU (bA.trans (congrArg some oB)) ?_;refine iU (bA.trans (congrArg some tJ)) ?_;refine iU (bA.trans (congrArg some a6o)) ?_;exact hR
 .refine iU (bA.trans (congrArg some tK)) ?_;refine iU (bA.trans (congrArg some qG)) ?_;refine iU (bA.trans (congrArg some qH)) ?_;refine iU (bA.trans (congrArg some oC)) ?_;refine iU (bA.trans (congrArg some tL)) ?_;refine iU (bA.trans (congrArg some a6r)) ?_;exact hR
def cR{bnd:an!}{ck:bJ!}{ft:WT}{fe:WE}{ρ:Ad}(b:D->Bool)(y:D->D)(ez:ck M):∀(ds:b!) (R:pl!),
  (∀d∈ds,∃ah,bnd d ρ=some ah/\(∀K:Bool->Mh->Prop,K (b d) M->ft ah M K)/\(b d=true->∀K:D->Mh->Prop,K (y d) M->fe ah M K))->R ((ds.filter b).map y) M->Sl bnd ck ft fe ρ ds M R
 |[],R,_,hR=>⟨ez,hR⟩
 |d::ds,R,h,hR=>by
  obtain⟨ah,e1,e2,e3⟩:=h d HV;refine oY!;rw[e1];refine e2 _ ?_;cases hb:b d with
  |true=>
   rw[j!];refine e3 hb _ (cR b y ez ds _ x8_ ?_);rw[KJ hb]at hR;exact hR
  |false=>
   rw[F!];refine cR b y ez ds _ x8_ ?_;rw[KB (by simp[hb])]at hR;exact hR
def Ve(W:OW)(x:D):List d5!:=(aK_).filter (·.2.2)
def a4u(hO:aC_)(w:By W)(O:a0!)(hB:h1<4000)(hR:R (.lst oZ!) M):Dr t d9! M R:=by
 obtain⟨a1,a2,a3,a4,a5,a6,k1,k2,k3,k4,k5,k6,hA⟩:=hO;obtain⟨e3,h3⟩:=hA.d3;obtain⟨e6,h6⟩:=hA.d6;obtain⟨k,hk⟩:=(w.nm x O).key;obtain⟨r,f,p,g1,g2,g3,g4,g5⟩:=hA.txt x O;have lt:=hA.lt x O;refine k!;have uj:∀R',w2 Br eP_ v! kw_ M R'=R' ba_ M:=by
  intro R';simp[w2,wl,Av,Gr,hA.ob,oF3,Br,h3,hk,g1,Dx,Aa]
 show Ay (Ca 1 [0] _ _ _ _) kw_ M _;simp only[Ay,Ca,Cs,Ba,uj,Af];refine⟨by simp only[Dg,g2.ob,rM.2.2.1,and_self],rfl,?_⟩;refine zT g2 bN! (b1f w O) ?_;refine du!;refine cR (λd=>!(kget k6 d).isSome) id trivial _ _ bI! ?_
 .show"!=";obtain⟨kq,uq⟩:=(vA_).key;refine⟨[some q.1,F_],rfl,kx!,yd!⟩;simpa[wT,w2,wl,Av,Gr,Aa,Dx,hA.ob,oF6,Hs,h6,uq]using hK
 .have e:((nB_).filter λd=>!(kget k6 d).isSome).map id=(dt_).map b_:=by
   rw[QV];unfold Ve;rw[NJ];congr 1;apply NQ;intro q hq;simp only[Function.comp];rw[hA.hi x O q hq];simp
  rw[e];exact hR
def a8q(hO:aC_)(w:By W)(O:a0!)(hB:h1<4000)(hj:o0!)(hR:R v M):Gm t d9! M R:=by
 have z7:=hO;obtain⟨a1,a2,a3,a4,a5,a6,k1,k2,k3,k4,k5,k6,hA⟩:=z7;obtain⟨e5,h5⟩:=hA.d5;have lt:=hA.lt x O;refine k!;show Ay (Qe _ (Ca 1 [0] r4_ _ _ _)) kw_ M _;simp only[Ay,Qe,Ca,Cs];have hm:∀(K:s_),K (.lst oZ!) M->Ba t.B4 "signs_of" 2 (Dr t) i_ az! kw_ M K:=λK hK=>⟨hA.noOb d2l,rfl,a4u hO w O hB hK⟩;refine hm _ ?_;have ls:(dt_).length<=(aK_).length:=NH _ _;refine du!;refine cR fx_ (λd=>(kget k5 d).getD .non) trivial _ _ bI! ?_
 .show"!=";have a9:=(o1!).1;obtain⟨kq,uq⟩:=(w.sg x O q a9).key;refine⟨[some q.1,F_],rfl,hu!,ep_⟩;simpa[w2,wl,Av,Gr,Aa,Dx,hA.ob,oF5,Br,h5,uq,hA.wr x O q a9]using hK
 .have e:(((oZ!).filter λ_=>true).map λd=>(kget k5 d).getD .non)=(dt_).map ky!:=by
   rw[hu_,JR];apply KQ;intro q hq;simp only[Function.comp];rw[hA.wr x O q (o1!).1];rfl
  rw[e];rw[hj];exact hR
end
structure Op where
 h:Int
 n:Int
 tm:Int
 d:D
nonrec def Op.v(o:Op):D:=.tup kz!
nonrec def Op.nm(o:Op):D:=.tup [hv!,.int o.n]
nonrec def Op.key(o:Op):Int×Int:=(o.tm,o.h)
def Hk:D->Option cm_
 |.tup [.str k,a]=>if o2_ then some (k,a)else none
 |_=>none
def jP(k:Str)(a:D):Hk (.tup oW_)=if o2_ then some (k,a)else none:=rfl
def uT(h:DG d):(∃k a,d=.tup oW_/\ye!/\NameG a/\Hk d=some (k,a))\/(∃k r,d=.tup dr!/\hv_=false/\(k=="redo")=false/\Hk d=none):=by
 have uu:o3_=true:=by decide+kernel
 have rr:o4!=true:=by decide+kernel
 cases h with
 |put B Y=>exact .inr ⟨_,_,rfl,tM,tN,rfl⟩
 |move B Y h3=>exact .inr ⟨_,_,rfl,a3e,a3f,rfl⟩
 |drop B=>
  refine .inr ⟨_,_,rfl,qI,qJ,?_⟩;rw[jP,qI,qJ];rfl
 |write B Y h3 h4 h5=>exact .inr ⟨_,_,rfl,yS,yT,rfl⟩
 |cut B Y h3 h4=>exact .inr ⟨_,_,rfl,a6s,a6t,rfl⟩
 |set B Y h3 h4=>exact .inr ⟨_,_,rfl,a6p,a6q,rfl⟩
 |undo B=>
  refine .inl ⟨_,_,rfl,cY!,B,?_⟩;rw[jP,uu];rfl
 |redo B=>
  refine .inl ⟨_,_,rfl,.inr rfl,B,?_⟩;rw[jP,rr,qF];rfl
def a3k(o:Op):Dh du_=some yg!:=by simp[Dh,Kw,Op.v,Cg,Bk,Az,Ac,Ag,f2,Aa,fC,Ai,Cw,Ea]
def xB:∀ops:List Op,Nk Dh eq!=some o4_
 |[]=>rfl
 |o::r=>by
  rw[HZ];unfold Nk;rw[a3k,xB r];rfl
def d1m(o:Op):Jb Dh o.v=o.key:=by unfold Jb;rw[a3k];rfl
def a7c{α β:Type}{f:lh!}{k:α->Int×Int}{k':β->Int×Int}(h:yh!)(x:α):∀l:List α,Rh k' (f x) h2!=(Rh k x l).map f
 |[]=>rfl
 |y::r=>by
  simp only[HZ,Rh,h];split
  .rfl
  .rw[a7c h x r];rfl
def vG{α β:Type}{f:lh!}{k:α->Int×Int}{k':β->Int×Int}(h:yh!):∀l:List α,Jo k' h2!=(Jo k l).map f
 |[]=>rfl
 |x::r=>by rw[HZ];unfold Jo;rw[vG h r,a7c h]
abbrev Ju(ops:h!):List Op:=Jo Op.key ops
def mO{ops:h!}(nd:eq_)(hl:dv!):Dq co!=some (.lst hw_):=by
 have e:AE Dh eq!=some hw_:=by
  unfold AE;rw[xB];show(if(o4_).Nodup/\(eq!).length<64 then some _ else none)=_;rw[IA ⟨nd,kF_⟩,vG d1m]
 simp[Dq,Qx,Cg,Bk,Vm,Aa,e]
def lN{a b:h!}(h:a.Perm b)(nd:yi_):Ju a=Ju b:=
 pJ (jQ nd) (jQ ((h.map _).nodup_iff.mp nd)) ((cL a).trans (h.trans (cL b).symm))
def b6n{a:h!}(nd:yi_):Ju (Ju a)=Ju a:=lN (cL a) (((cL a).map _).nodup_iff.mpr nd)
def c5r{o:Op}(h:DG o.d):Bb du_=some o5!:=by
 have e3:Ai o.v bg!=some o.d:=by
  simp[Op.v,Ai,Cw,Ea]
 have main:∀(k:Str) (r:b!),o.d=.tup dr!->Bb du_=some (.bl o2_):=λk r e=>by
  have e0:Ai eo_ O!=some U_:=by
   show oS_;show"!n"
  have e1:∀s:Str,f2 Aw iE! (fC aE_) [K_]=some (.bl (k==s)):=λs=>by
   show(o5_).bind yj_=_;rw[e3,e];show((Ai eo_ O!)).bind yj_=_;rw[e0];exact gV k s
  show(match Bk (Et _ _) [K_]with|some (.rt d)=>some d|some (.nx _)=>some .non|none=>none)=_;unfold Bk Et fT;rw[e1,e1];cases (k==Str.ofString "undo")<;>rfl
 obtain⟨k,a,e,hk,_,hu⟩|⟨k,r,e,B,Y,hu⟩:=uT h
 .rw[main k [a] e,hu];obtain rfl|rfl:=hk
  .rw[yk!];rfl
  .rw[yk_,qF];rfl
 .rw[main k r e,hu,B,Y];rfl
def Pg(f:Str->D):List Op->List aF_->List aF_
 |[],acc=>acc
 |o::os,acc=>match Hk o.d with
  |some (k,a)=>Pg f os (As acc a (f k))
  |none=>Pg f os acc
def vA:∀(os:h!) (A h1:h_),(∀x,(kget A x=none/\kget h1 x=none)\/∃k:Str,kget A x=some U_/\kget h1 x=some fA!)->
  ∀x,(kget yl! x=none/\kget yl_ x=none)\/∃k:Str,kget yl! x=some U_/\kget yl_ x=some fA!
 |[],A,h1,h=>h
 |o::os,A,h1,h=>by
  unfold Pg;cases e:Hk o.d with
  |none=>exact vA os A h1 h
  |some q=>
   obtain⟨k,a⟩:=q;refine vA os _ _ λx=>?_;by_cases c:a=x
   .subst c;rw[dL,dL];exact .inr ⟨k,rfl,rfl⟩
   .rw[dU c,dU c];exact h x
section
variable{t:Ar}{M:Mh}{R:D->Mh->Prop}
def hJ{kvs:h_}{ep:Nat}(h:bG!)(hk:b0!)(hl:cN_):Lf M G! y v=some hP!:=by simp[Lf,h,hk,hl]
def zO(h:NameG x):∃k,Dc x=some k:=by obtain⟨a,b,rfl,_⟩:=h;exact I_
def d2a:Aa 1 o7_=some G!:=rfl
def a2j:∀(os:h!) (x1:D) (y:ah!) (acc:h_) (ep:Nat) (M:Mh) (R:j_),o8!->cO_+V!<1000->M p=some o8_->
  (∀M' ay y',M' p=some (.dct ym! ay)->kA!->R yn! M')->
  Hg bO! ab! r7_ Z_ o7_ M R
 |[],x1,y,acc,ep,M,R,_,_,hp,hR=>yn_
 |o::os,x1,y,acc,ep,M,R,hd,hl,hp,hR=>by
  refine aL!;show Aq (Da _) _ _ bZ! M _;have ho:=hd o HV;have et:fT (f1 Bb b9!) bZ!=some (Hk o.d).isSome:=by
   have e:f1 Bb b9! bZ!=some o5!:=c5r ho;unfold fT;rw[e];rfl
  simp only[IH]at hl;have e3:Ai o.v bg!=some o.d:=by simp[Op.v,Ai,Cw,Ea]
  obtain⟨k,a,e,hk,ir,hu⟩|⟨k,r,e,B,Y,hu⟩:=uT ho
  .rw[hu]at et;refine ifT et ?_;obtain⟨ka,kg⟩:=zO ir;have i0:f2 Ai a7! B_ bZ!=some U_:=by
    show o5_=_;rw[e3,e];show Cw [D.str k,a] 0=_;simp[Cw,Ea]
   have i1:f2 Ai a7! v_ bZ!=some a:=by
    show yo!;rw[e3,e];show Cw [D.str k,a] 1=_;simp[Cw,Ea]
   have g9:Lf M G! a U_=some yp!:=by
    exact hJ hp kg hk!
   have:=a2j (p:=p) os x1 hy! (As acc a U_) (Gp acc a ep) yp! R hy_ (by have:=kput_len acc a U_;omega) mup_same (λM' ay y' B Y=>hR M' ay y' yp_ λb hb=>(Y b hb).trans o9!);simp only[Bw,wl,i0,i1,d2a,g9,Dx];show"#D"
  .rw[hu]at et;refine iU et ?_;exact a2j (p:=p) os x1 hy! acc ep M R hy_ a! hp yq!
def uS{f:e!}{ρ:Ad}(h:f ρ=some cj!):Ey f ρ=some ds:=by unfold Ey;rw[h];rfl
def yL{ops:h!}(nd:eq_)(hl:dv!)(hd:hz!)
  (hR:∀p M' ep,M p=none->M' p=some (.dct hz_ ep)->kA!->R G! M'):Gk co! M R:=by
 refine k!;intro p hp;have hi:Ey iF! o9_=some hw_:=uS (mO nd hl);have bo:(a2!).Perm ops:=cL ops;have:=a2j (p:=p) a2! hA! none [] 0 fL_ (λr M1=>match r with|.nx ah=>Ay v! ah M1 g0_|.rt d=>R d M1) yq_ yr! mup_same yr_;show Ah (Dd (Jg _) _ _) _ o9_ _ _;simp only[Ah,Dd,Jg,hi,Dx];show"#D"
def t2{g:a1_}{fa:WE}{fb:e!}{ρ:Ad}{K:fG!}{b:Bool}(ha:∀K':D->Mh->Prop,K' d M->fa ρ M K')(hb:fb ρ=some v)(hg:g d v=some bM_)(k:K b M):wT (w2 (λ_=>g) fa er_) ρ M K:=by unfold wT w2;refine ha _ ?_;simp only[wl,hb,hg];exact k
def Undn(wd:h_)(o:Op):Prop:=Hk o.d=none/\kget wd o.nm=some b8_
def b6o(o:Op):Bl o.v none (some 2)=some o.nm:=by simp[Op.v,Op.nm,Bl,Di,HT.sIx]
def a9v(o:Op):∃k,Dc o.nm=some k:=I_
def b1e{e0:Nat}(qo:p≠q):∀(os:h!) (x1:D) (y z:ah!) (acc:h_) (ep:Nat) (M:Mh) (R:j_),o8!->cO_+V!<1000->M p=some (.dct wd e0)->M q=some o8_->(∀x v,kget wd x=some v->∃k:Str,v=.str k)->
  (∀M' ay y' z' db,M' q=some (.dct db ay)->(∀x,kget db x≠none↔(kget acc x≠none\/∃o∈os,o.nm=x/\Undn wd o))->ys!->R (.nx [Q!,aj!,br_,y',z']) M')->
  Hg J_ ab! iH_ Z_ [Q!,aj!,br_,y,z] M R
 |[],x1,y,z,acc,ep,M,R,_,_,hp,hq,k8,hR=>⟨trivial,hR M ep y z acc hq yw! λb _=>rfl⟩
 |o::os,x1,y,z,acc,ep,M,R,hd,hl,hp,hq,k8,hR=>by
  refine aL!;show Ah (An 4 _) _ yv! M _;have ho:=hd o HV;simp only[IH]at hl;have es:Eo O_ Ax c1_ yv!=some o.nm:=b6o o;simp only[Ah,An,wl,es];show Aq _ _ _ dw_ M _;have et:Cu sa! dw_=some (!(Hk o.d).isSome):=by
   have e:f1 Bb eS! dw_=some o5!:=c5r ho;unfold Cu fT;rw[e];rfl
  obtain⟨kn,gd⟩:=a9v o;have next:∀(c:Prop),(c↔Undn wd o)->∀db ay M',M' q=some (.dct db ay)->(∀x,kget db x≠none↔(kget acc x≠none\/(x=o.nm/\c)))->db.length<=cO_+1->ys!->
    Hg J_ ab! iH_ Z_ dw_ M' R:=λc hc db ay M' B Y h3 h4=>by
   refine b1e (p:=p) (q:=q) (wd:=wd) (e0:=e0) qo os x1 _ _ db ay M' R hy_ a! ((h4 p qo).trans hp) B k8 λM2 td y2 z2 acc2 g1 g2 g3=>hR M2 td y2 z2 acc2 g1 pa_ λb hb=>(g3 b hb).trans (h4 b hb);rw[g2,Y];show"!H"
   .rintro((u|⟨u1,u2⟩)|⟨o',u1,u2,u3⟩)
    .exact .inl u
    .exact .inr ⟨o,HV,u1.symm,hc.mp u2⟩
    .exact .inr ⟨o',HP _ u1,u2,u3⟩
   .rintro(u|⟨o',u1,u2,u3⟩)
    .exact .inl (.inl u)
    .obtain rfl|u1:=HQ.mp u1
     .exact .inl (.inr ⟨u2.symm,hc.mpr u3⟩)
     .exact .inr ⟨o',u1,u2,u3⟩
  have no:(¬Undn wd o)->Hg J_ ab! iH_ Z_ dw_ M R:=λh=>next False (by simp[h]) acc ep M hq yw! a! λb _=>rfl;cases hu:Hk o.d with
  |some u=>
   rw[hu]at et;simp only[Aq,Fo,Da,et];exact no λz=>by rw[z.1]at hu;cases hu
  |none=>
   rw[hu]at et;simp only[Aq,Fo,Da,et];have hg:∀(K:s_),K yx! M->Oq v! aX! dw_ M K:=λK hK=>by
    have c1:Ef M G!=some (p,wd,e0):=by simp[Ef,hp]
    show Dx (Ef M G!) λ_=>Dx (Ef M G!) λq=>Dx (Dc o.nm) λ_=>K ((kget q.2.1 o.nm).getD .non) M;rw[c1,gd];exact hK
   have hsd:Sd yx!:=by
    cases e:kget wd o.nm with
    |none=>exact .inl rfl
    |some v=>obtain⟨k,rfl⟩:=k8 _ _ e;exact iJ k
   have WM:(pb!).getD .non=.str "undo"↔Undn wd o:=by
    unfold Undn;rw[hu];cases e:kget wd o.nm with
    |none=>simp
    |some v=>simp
   refine t2 hg (v:=ov_) rfl (nQ hsd (iJ _)) ?_;by_cases c:(pb!).getD .non=.str "undo"
   .rw[IT c];have g9:=hJ (y:=o.nm) (v:=dM!) hq gd hk!;have f2:Aa 2 dw_=some bU_:=rfl;have f4:Aa 4 dw_=some o.nm:=rfl;rw[j!];simp only[Bw,wl,fC,f2,f4,g9,Dx];refine next True (by simp[<-WM,c]) _ _ _ mup_same pa_ d4_ λb hb=>mup_ne hb;by_cases e:o.nm=x
    .subst e;rw[dL];simp
    .rw[dU e];simp[HY e]
   .rw[IK c];rw[F!];exact no λz=>c (WM.mpr z)
def a0y:∀(os:h!) (acc:h_),(∀x v,kget acc x=some v->∃k:Str,v=.str k)->∀x v,kget ym! x=some v->∃k:Str,v=.str k
 |[],acc,h=>h
 |o::os,acc,h=>by
  unfold Pg;cases e:Hk o.d with
  |none=>exact a0y os acc h
  |some q=>
   obtain⟨k,a⟩:=q;refine a0y os _ λx v O=>?_;by_cases c:a=x
   .subst c;rw[dL]at O;cases O;exact⟨k,rfl⟩
   .rw[dU c]at O;exact h x v O
def b3s{ops:h!}(nd:eq_)(hl:dv!)(hd:hz!)
  (hR:∀q M' ep kq,M q=none->M' q=some (.dct kq ep)->(∀x,kget kq x≠none↔∃o∈ops,o.nm=x/\Undn hz_ o)->pc!->R bU_ M'):Ma co! M R:=by
 refine k!;have hc:∀(K:s_),Gk co! M K->Am 1 Gk bi! yy_ M K:=λK h=>bn!;refine hc _ (yL nd hl hd λp M1 ep hp hM1 fr=>?_);intro q hq;have qo:p≠q:=λz=>by rw[<-z,hM1]at hq;cases hq
 have oy:M q=none:=by rw[<-fr q (HY qo)];exact hq
 have hi:Ey l! [bZ_,aj!,br_,none,none]=some eq!:=rfl;simp only[Ah,Dd,Jg,hi,Dx];refine b1e (wd:=pc_) (e0:=ep) qo ops hA! none none [] 0 _ _ hd bN! ((mup_ne qo).trans hM1) mup_same (a0y _ [] λx v h=>by simp[kget]at h) λM' ay y' z' db B Y h3=>?_;refine hR q M' ay db oy B pa_ λb hb=>?_
 .rw[Y];simp[kget]
 .have b1:b≠q:=λz=>hb (by rw[z];exact oy);have b2:b≠p:=λz=>hb (by rw[z];exact hp);rw[h3 b b1,mup_ne b1,fr b b2]
end
def W0:OW:=⟨[],[],λ_=>[],λ_=>[]⟩
def c6o:Vc W0 []:=by refine⟨⟨by simp[W0],dx!,by simp[W0],λx=>by simp[W0],yA!,⟨λ_=>0,yA!⟩,dx!,dx!,dx!,dx!⟩,dx!,dx!,dx!⟩
section
variable{t:Ar}{M:Mh}{R:D->Mh->Prop}
def cU(f:Str)(v:D):∀l:List cm_,(Bo f v l).length<=al_+1
 |[]=>by simp[Bo]
 |(g,x)::r=>by
  unfold Bo;split
  .simp
  .have:=cU f v r;simp;omega
def Kp(o:xz!)(M M':Mh):Prop:=∀c,M c≠none->c≠o->M' c=M c
def Kp.trans{M M1 M2:Mh}(a:Kp o M M1)(b:Kp o M1 M2):Kp o M M2:=λc B Y=>by
 have e:=a c B Y;rw[b c (by rw[e];exact B) Y,e]
def qW{fs:aS_}{R:j_}(ho:M o=some he_)(hl:bv_<100)
  (hR:∀a M',M a=none->M' a=some A_->M' o=some (.obj C (Bo x ci_ fs))->Kp o M M'->(∀c,M' c≠none->M c≠none\/c=a)->R (.nx [F_]) M'):Fh C x i_ Gv [F_] M R:=by
 intro a ha;have oa:o≠a:=λz=>by rw[<-z,ho]at ha;cases ha
 have e:Bd M a A_ o=some he_:=(mup_ne oa).trans ho;have f0:Aa 0 [F_]=some ag!:=rfl;simp only[wl,f0,e];refine⟨trivial,hl,hR a _ ha ((mup_ne (HY oa)).trans mup_same) mup_same (λc B Y=>?_) λc hc=>?_⟩
 .rw[cC_,mup_ne λz=>B (by rw[z];exact ha)]
 .by_cases c1:c=a
  .exact .inr c1
  .by_cases c2:c=o
   .rw[c2,ho];exact .inl d_
   .rw[kD!,mup_ne c1]at hc;exact .inl hc
def pc{fa:e!}{fb:WE}{fp:WP}{ρ:Ad}{R:zC_}(h:fa ρ=some x)(k:fb ρ M λy M2=>fp ρ M2 λkvs M3=>R ((x,y)::kvs) M3):El fC! fb fp ρ M R:=by simp only[El,wl,h];exact k
def a2g{ρ:Ad}(hR:∀o rl M',M o=none->Ce t M' o rl W0 2->pd!->R ag! M'):Gu t.B4 1 (Im t) Af ρ M R:=by
 refine⟨rfl,λo ho=>k!⟩;have f0:Aa 0 [F_]=some ag!:=rfl;show Ah (Fh t.B4 "parents" _ _) _ [F_] yB! _;intro a1 xb;have jx:a1≠o:=λz=>by rw[z,mup_same]at xb;cases xb
 rw[mup_ne jx]at xb;refine⟨mup_same,ag_,pd_,?_,?_⟩
 .obtain rfl|hq:=HQ.mp hq
  .rfl
  .rw[IG.mp hq];rfl
 .show(fC_).Nodup;rw[IN];exact yB_
 have e1:Bd yC! a1 yC_ o=some yA_:=by rw[yD!,yD!,mup_same]
 simp only[wl,f0];rw[e1];refine⟨rfl,ag_,?_⟩;generalize xc:Bd (Bd yC! a1 yC_) o pf!=S1;have qq:S1 o=some pf!:=by rw[<-xc,mup_same]
 have qr:S1 a1=some (.dct kD_ 2):=by rw[<-xc,mup_ne jx,mup_same];rfl
 have S1m:∀c,c≠o->c≠a1->S1 c=M c:=λc B Y=>by rw[<-xc,ci!,cC_,cC_,ci!]
 clear xc e1;intro a2 oz;have jy:a2≠o:=λz=>by rw[z,qq]at oz;cases oz
 refine pc rfl ?_;refine qA λr1 f1 p1 N1 z1 z2 z3 _ _ R1 K1=>?_;refine pc rfl ?_;refine qA λr2 f2 p2 N2 y1 y2 y3 _ _ R2 K2=>?_;have l1:∀c,Bd S1 a2 A_ c≠none->N1 c=Bd S1 a2 A_ c:=λc hc=>K1 c (aW hc z1) (aW hc z2) (aW hc z3);have l2:∀c,N1 c≠none->N2 c=N1 c:=λc hc=>K2 c (aW hc y1) (aW hc y2) (aW hc y3);have z9:N1 a2=some A_:=by rw[l1 a2 pf_,mup_same]
 have n2a:N2 a2=some A_:=by rw[l2 a2 (by rw[z9];simp),z9]
 have F':N1 o=S1 o:=by rw[l1 o (by rw[kE_,qq];simp),kE_]
 have n2o:N2 o=S1 o:=by rw[l2 o yE!,F']
 refine⟨n2a,G_,pd_,?_,?_⟩
 .obtain rfl|hq:=HQ.mp hq
  .rfl
  .rw[IG.mp hq];rfl
 .show(fC_).Nodup;rw[IN];exact yB_
 have e2:Bd N2 a2 yE_ o=some pf!:=by rw[kE_,n2o,qq]
 simp only[wl,f0];rw[e2];refine⟨rfl,by have:=cU d7_ fD_ [];simp at this;omega,?_⟩;generalize qu:Bd (Bd N2 a2 yE_) o yF!=S2;have WN:S2 o=some yF!:=by rw[<-qu,mup_same]
 have J':S2 a2=some (.dct kF! 2):=by rw[<-qu,mup_ne jy,mup_same];rfl
 have ur:∀c,c≠o->c≠a2->S2 c=N2 c:=λc B Y=>by rw[<-qu,ci!,cC_]
 clear qu e2;have pb:∀c,N1 c≠none->c≠r2/\c≠f2/\c≠p2:=λc hc=>⟨aW hc y1,aW hc y2,aW hc y3⟩;have v1:=R1.live;have v2:=R2.live;have nr:∀c,Bd S1 a2 A_ c≠none->c≠r1/\c≠f1/\c≠p1:=λc hc=>⟨aW hc z1,aW hc z2,aW hc z3⟩;have so:Bd S1 a2 A_ o≠none:=by rw[kE_,qq];simp
 have sa:Bd S1 a2 A_ a2≠none:=by rw[mup_same];simp
 have N':Kp o S1 S2:=λc hc h=>by
  have c2:c≠a2:=λz=>hc (by rw[z];exact oz);have s:Bd S1 a2 A_ c≠none:=by rw[kD!];exact hc
  have e:=l1 c s;rw[ur c h c2,l2 c (by rw[e];exact s),e,kD!]
 refine qW (x:=hD_) WN (by have:=cU di_ fE! fD!;have:=cU d7_ fD_ [];simp at this;omega) λa3 S3 q3 SA WO ut w3=>?_;refine qW (x:=ph!) WO (by have:=cU d8! kG! hD!;have:=cU di_ fE! fD!;have:=cU d7_ fD_ [];simp at this;omega) λa4 S4 q4 SC WQ qz w4=>?_;refine qW (x:="written") WQ (by have:=cU fd_ (.fn a4) ph_;have:=cU d8! kG! hD!;have:=cU di_ fE! fD!;have:=cU d7_ fD_ [];simp at this;omega) λa5 S5 q5 SD WR pe w5=>?_;refine qW (x:="hidden") WR (by have:=cU nK! (.fn a5) yG_;have:=cU fd_ (.fn a4) ph_;have:=cU d8! kG! hD!;have:=cU di_ fE! fD!;have:=cU d7_ fD_ [];simp at this;omega) λa6 S6 q6 S6a SE WU w6=>?_;have hob:Bo vy_ (.fn a6) (Bo nK! (.fn a5) yG_)=oF a1 a2 a3 a4 a5 a6:=by kernel_rfl
 rw[hob]at SE;have WV:=pe.trans WU;have WW:=qz.trans WV;have xf:=ut.trans WW;have WX:=N'.trans xf;have lo:∀{N:Mh} {c:xz!} {x:Pe},N c=some x->N c≠none:=λh=>by rw[h];simp
 have o3:a3≠o:=λz=>by rw[z,WN]at q3;cases q3
 have o4:a4≠o:=λz=>by rw[z,WO]at q4;cases q4
 have o5:a5≠o:=λz=>by rw[z,WQ]at q5;cases q5
 have o6:a6≠o:=λz=>by rw[z,WR]at q6;cases q6
 have F1:S6 a1=some (.dct kD_ 2):=(WX a1 (lo qr) jx).trans qr;have F2:S6 a2=some (.dct kF! 2):=(xf a2 (lo J') jy).trans J';have F3:S6 a3=some A_:=(WW a3 (lo SA) o3).trans SA;have F4:S6 a4=some A_:=(WV a4 (lo SC) o4).trans SC;have F5:S6 a5=some A_:=(WU a5 (lo SD) o5).trans SD;have F6:=S6a;have SF:∀c,N1 c≠none->c≠o->c≠a2->S6 c=N1 c:=λc hc B Y=>by
  have e:=l2 c hc;have e':=ur c B Y;rw[xf c (by rw[e',e];exact hc) B,e',e]
 have SG:∀c,N2 c≠none->c≠o->c≠a2->S6 c=N2 c:=λc hc B Y=>by
  have e':=ur c B Y;rw[xf c (by rw[e'];exact hc) B,e']
 have q8:=nr o so;have q9:=nr a2 sa;have Q1:Ek t S6 r1 f1 p1 []:=R1.keep (SF _ v1.1 (HY q8.1) (HY q9.1)) (SF _ v1.2.1 (HY q8.2.1) (HY q9.2.1)) (SF _ v1.2.2 (HY q8.2.2) (HY q9.2.2));have mo:=pb o yE!;have ma:=pb a2 (lo z9);have Q2:Ek t S6 r2 f2 p2 []:=R2.keep (SG _ v2.1 (HY mo.1) (HY ma.1)) (SG _ v2.2.1 (HY mo.2.1) (HY ma.2.1)) (SG _ v2.2.2 (HY mo.2.2) (HY ma.2.2))
 let rl:Addr->Pc:=λc=>if c=o then .ob else if c=a1 then .par else if c=a2 then .rows else if c=a3 then .texts else if c=a4 then .nums else if c=a5 then .writ else if c=a6 then .hid else if c=r1 then .rO root else if c=f1 then .rF root else if c=p1 then .rP root else if c=r2 then .rO binn else if c=f2 then .rF binn else if c=p2 then .rP binn else .oth
 have dead:∀c,M c≠none->S6 c=M c/\c≠o/\c≠a1/\c≠a2/\c≠a3/\c≠a4/\c≠a5/\c≠a6/\wr_/\(c≠r2/\c≠f2/\c≠p2):=λc hc=>by
  have c0:c≠o:=aW hc ho;have c1:c≠a1:=aW hc xb;have s1:S1 c=M c:=S1m c c0 c1;have uv:S1 c≠none:=by rw[s1];exact hc
  have c2:c≠a2:=aW uv oz;have s2:S2 c≠none:=by rw[N' c uv c0];exact uv
  have c3:c≠a3:=aW s2 q3;have s3:S3 c≠none:=by rw[ut c s2 c0];exact s2
  have c4:c≠a4:=aW s3 q4;have s4:S4 c≠none:=by rw[qz c s3 c0];exact s3
  have c5:c≠a5:=aW s4 q5;have s5:S5 c≠none:=by rw[pe c s4 c0];exact s4
  have c6:c≠a6:=aW s5 q6;have sm:Bd S1 a2 A_ c≠none:=by rw[kD!];exact uv
  have n1:N1 c≠none:=by rw[l1 c sm];exact sm
  exact⟨(WX c uv c0).trans s1,c0,c1,c2,c3,c4,c5,c6,nr c sm,pb c n1⟩
 refine⟨trivial,hR o rl S6 ho ⟨a1,a2,a3,a4,a5,a6,kD_,kF!,[],[],[],[],?_⟩ λb hb=>?_⟩
 .have g0:rl o=.ob:=IA rfl;have al1:S6 a1≠none:=lo F1;have g1:rl a1=.par:=by show(if a1=o then _ else _)=_;rw[HR jx,j!]
  have WY:a2≠a1:=λz=>by rw[z,qr]at oz;cases oz
  have g2:rl a2=.rows:=by show(if a2=o then _ else _)=_;rw[HR jy,HR WY,j!]
  have SH:S2 a1≠none:=by rw[N' a1 (lo qr) jx];exact lo qr
  have SI:S2 a2≠none:=lo J';have a31:=HY (aW SH q3);have zz:=HY (aW SI q3);have g3:rl a3=.texts:=by show(if a3=o then _ else _)=_;rw[HR o3,HR a31,HR zz,j!]
  have SJ:S3 a1≠none:=by rw[ut a1 SH jx];exact SH
  have SK:S3 a2≠none:=by rw[ut a2 SI jy];exact SI
  have SL:S3 a3≠none:=lo SA;have g4:rl a4=.nums:=by show(if a4=o then _ else _)=_;rw[HR o4,HR (HY (aW SJ q4)),HR (HY (aW SK q4)),HR (HY (aW SL q4)),j!]
  have SM:S4 a1≠none:=by rw[qz a1 SJ jx];exact SJ
  have SN:S4 a2≠none:=by rw[qz a2 SK jy];exact SK
  have SO:S4 a3≠none:=by rw[qz a3 SL o3];exact SL
  have SQ:S4 a4≠none:=lo SC;have g5:rl a5=.writ:=by show(if a5=o then _ else _)=_;rw[HR o5,HR (HY (aW SM q5)),HR (HY (aW SN q5)),HR (HY (aW SO q5)),HR (HY (aW SQ q5)),j!]
  have t51:S5 a1≠none:=by rw[pe a1 SM jx];exact SM
  have t52:S5 a2≠none:=by rw[pe a2 SN jy];exact SN
  have t53:S5 a3≠none:=by rw[pe a3 SO o3];exact SO
  have t54:S5 a4≠none:=by rw[pe a4 SQ o4];exact SQ
  have t55:S5 a5≠none:=lo SD;have g6:rl a6=.hid:=by show(if a6=o then _ else _)=_;rw[HR o6,HR (HY (aW t51 q6)),HR (HY (aW t52 q6)),HR (HY (aW t53 q6)),HR (HY (aW t54 q6)),HR (HY (aW t55 q6)),j!]
  have WZ:∀c,S2 c≠none->c≠o->c≠a3/\c≠a4/\c≠a5/\c≠a6:=λc Y co=>by
   have s3:S3 c≠none:=by rw[ut c Y co];exact Y
   have s4:S4 c≠none:=by rw[qz c s3 co];exact s3
   have s5:S5 c≠none:=by rw[pe c s4 co];exact s4
   exact⟨aW Y q3,aW s3 q4,aW s4 q5,aW s5 q6⟩
  have u1:∀c,N1 c≠none->c≠o->c≠a2->S2 c≠none:=λc hc B Y=>by rw[ur c B Y,l2 c hc];exact hc
  have u2:∀c,N2 c≠none->c≠o->c≠a2->S2 c≠none:=λc hc B Y=>by rw[ur c B Y];exact hc
  have SS:Bd S1 a2 A_ a1≠none:=by rw[mup_ne (HY WY)];exact lo qr
  have SU:=nr a1 SS;have SV:=pb a1 (by rw[l1 a1 SS];exact SS);have SW:∀c,N1 c≠none->c≠o->c≠a1->c≠a2->rl c=if c=r1 then .rO root else if c=f1 then .rF root else if c=p1 then .rP root else if c=r2 then .rO binn else if c=f2 then .rF binn else if c=p2 then .rP binn else .oth:=λc hc h0 B Y=>by
   obtain⟨x3,x4,x5,x6⟩:=WZ c (u1 c hc h0 Y) h0;show"#("
  have SX:∀c,N2 c≠none->c≠o->c≠a1->c≠a2->rl c=if c=r1 then .rO root else if c=f1 then .rF root else if c=p1 then .rP root else if c=r2 then .rO binn else if c=f2 then .rF binn else if c=p2 then .rP binn else .oth:=λc hc h0 B Y=>by
   obtain⟨x3,x4,x5,x6⟩:=WZ c (u2 c hc h0 Y) h0;show"#("
  have h7:rl r1=.rO root:=by rw[SW r1 v1.1 (HY q8.1) (HY SU.1) (HY q9.1),j!]
  have h8:rl f1=.rF root:=by rw[SW f1 v1.2.1 (HY q8.2.1) (HY SU.2.1) (HY q9.2.1),HR (HY R1.rne.1),j!]
  have h9:rl p1=.rP root:=by rw[SW p1 v1.2.2 (HY q8.2.2) (HY SU.2.2) (HY q9.2.2),HR (HY R1.rne.2),HR (HY R1.ne),j!]
  have b1:=pb r1 v1.1;have b2:=pb f1 v1.2.1;have b3:=pb p1 v1.2.2;have h10:rl r2=.rO binn:=by rw[SX r2 v2.1 (HY mo.1) (HY SV.1) (HY ma.1),HR (HY b1.1),HR (HY b2.1),HR (HY b3.1),j!]
  have h11:rl f2=.rF binn:=by rw[SX f2 v2.2.1 (HY mo.2.1) (HY SV.2.1) (HY ma.2.1),HR (HY b1.2.1),HR (HY b2.2.1),HR (HY b3.2.1),HR (HY R2.rne.1),j!]
  have h12:rl p2=.rP binn:=by rw[SX p2 v2.2.2 (HY mo.2.2) (HY SV.2.2) (HY ma.2.2),HR (HY b1.2.2),HR (HY b2.2.2),HR (HY b3.2.2),HR (HY R2.rne.2),HR (HY R2.ne),j!]
  have kr:kget pg! root=some (.fn r1):=by show yK_=_;rw[j!]
  have kb:kget pg! binn=some (.fn r2):=by
   show yL_;rw[HR b1u,j!]
  have kr':kget pe! root=some .non:=by show yK_=_;rw[j!]
  have kb':kget pe! binn=some .non:=by
   show yL_;rw[HR b1u,j!]
  exact{
      ob:=SE,d1:=⟨_,F1⟩,d2:=⟨_,F2⟩,d3:=⟨_,F3⟩,d4:=⟨_,F4⟩,d5:=⟨_,F5⟩,d6:=⟨_,F6⟩
      ro:=g0,r1:=g1,r2:=g2,r3:=g3,r4:=g4,r5:=g5,r6:=g6
      p0:=⟨kr',kb'⟩
      pr:=λi p h=>yz_
      row:=λx O=>by
       obtain O|rfl|rfl:=O
       .simp[W0]at O
       .exact⟨r1,f1,p1,kr,Q1,h7,h8,h9⟩
       .exact⟨r2,f2,p2,kb,Q2,h10,h11,h12⟩
      rown:=λx O=>by
       unfold Ft at O;rw[OX,OX]at O;show(if root=x then _ else(if binn=x then _ else _))=_;rw[HR (HY O.2.1),HR (HY O.2.2)];rfl
      txt:=λx O=>fB_
      txtn:=λx _=>rfl
      num:=λx O=>fB_
      wr:=λx O=>fB_
      hi:=λx O=>fB_
      hk:=λs hs=>(by simp[kget]at hs)
      l1:=by simp,l2:=by simp,l3:=by simp,l4:=by simp,l5:=by simp,l6:=by simp,lr:=by simp[W0],lt:=λx O=>fB_
      live:=λc hc=>by
       by_cases y0:c=o
       .rw[y0];exact lo SE
       by_cases ug:c=a1
       .rw[ug];exact lo F1
       by_cases uh:c=a2
       .rw[uh];exact lo F2
       by_cases km:c=a3
       .rw[km];exact lo F3
       by_cases iz:c=a4
       .rw[iz];exact lo F4
       by_cases ky:c=a5
       .rw[ky];exact lo F5
       by_cases ui:c=a6
       .rw[ui];exact lo F6
       by_cases ja:c=r1
       .rw[ja];exact Q1.live.1
       by_cases mf:c=f1
       .rw[mf];exact Q1.live.2.1
       by_cases mh:c=p1
       .rw[mh];exact Q1.live.2.2
       by_cases W7:c=r2
       .rw[W7];exact Q2.live.1
       by_cases W8:c=f2
       .rw[W8];exact Q2.live.2.1
       by_cases W9:c=p2
       .rw[W9];exact Q2.live.2.2
       exfalso;apply hc;show pi_=_;rw[HR y0,HR ug,HR uh,HR km,HR iz,HR ky,HR ui,HR ja,HR mf,HR mh,HR W7,HR W8,HR W9]}
 .obtain⟨d1,d2,d3,d4,d5,d6,d7,d8,d9,SY⟩:=dead b hb;refine⟨d1,?_⟩;show(if b=o then _ else _)=_;rw[HR d2,HR d3,HR d4,HR d5,HR d6,HR d7,HR d8,HR d9.1,HR d9.2.1,HR d9.2.2,HR SY.1,HR SY.2.1,HR SY.2.2]
end
def b9c{α β:Type}{f:lh!}:∀{l:N_},(h2!).Nodup->∀{x y:α},x∈l->y∈l->f x=f y->x=y
 |[],_,_,_,h,_,_=>by cases h
 |a::l,nd,x,y,O,hy,e=>by
  rw[HZ,IN]at nd;obtain B|B:=HQ.mp O<;>obtain Y|Y:=HQ.mp hy
  .rw[B,Y]
  .exact absurd (by rw[<-B,e];exact IE Y) nd.1
  .exact absurd (by rw[<-Y,<-e];exact IE B) nd.1
  .exact b9c nd.2 B Y e
inductive Ww:OW->List Op->OW->Prop
 |nil {W:OW}:Ww W [] W
 |cons {W W1 W2:OW} {o:Op} {os:h!}:Tj W o.nm o.d W1->Ww W1 os W2->Ww W (o::os) W2
def Rn(wd:h_)(os:h!):List Op:=os.filter λo=>decide (Hk o.d=none/\¬kget wd o.nm=some b8_)
section
variable{t:Ar}{M:Mh}{R:D->Mh->Prop}
def FA(t:Ar):WS:=Ah go_ sm_
def b2b{e0:Nat}{ops:h!}(hq:∀x∈ops,kget kq x.nm≠none↔Undn wd x):∀(os:h!) (x1:D) (y z:ah!) (M:Mh) (rl:bU!) (W W':OW) (pre:b!) (h1:Nat) (R:j_),
  (∀x∈os,x∈ops/\DG x.d)->yQ_->(pm!).Nodup->Ce t M o rl W h1->Vc W pre->Ww W pn! W'->h1+20*V!<3900->M q=some (.dct kq e0)->rl q=.oth->
  (∀M' ae y' z',Ce t M' o ae W' (h1+20*V!)->yR!->Fr M rl M' ae->R (.nx [Q!,F_,br_,y',z']) M')->
  Hg J_ ab! (FA t) Z_ [Q!,F_,br_,y,z] M R
 |[],x1,y,z,M,rl,W,W',pre,h1,R,_,_,_,hO,w,L,_,_,_,hR=>by
  cases L;exact⟨trivial,hR M rl y z hO ⟨pre,w⟩ .refl⟩
 |x::os,x1,y,z,M,rl,W,W',pre,h1,R,hd,hp,nd,hO,w,L,hB,oy,jw,hR=>by
  refine aL!;show Ah (An 4 _) _ yR_ M _;obtain⟨O,jo⟩:=hd x HV;simp only[IH]at hB hR;rw[HZ,IN]at nd;have es:Eo O_ Ax c1_ yR_=some x.nm:=b6o x;simp only[Ah,An,wl,es];obtain⟨kn,gd⟩:=a9v x;have uw:Hs true M x.nm bU_=some (.bl (!(kget kq x.nm).isSome)):=by simp[Hs,oy,gd]
  have f4:Aa 4 et_=some x.nm:=rfl;have ux:Aa 2 et_=some bU_:=rfl;have f1':Aa 1 et_=some ag!:=rfl;have f3':f2 Ai O_ ab_ et_=some x.d:=by
   show Ai x.v bg!=_;simp[Op.v,Ai,Cw,Ea]
  show Aq sl! _ _ et_ M _;simp only[Aq,wT,w2,wl,f4,ux,uw];have hu:=hq x O;have rest:∀(M1:Mh) (dh:bU!) (W1:OW) (xg:b!),Ce t M1 o dh W1 bo_->Vc W1 xg->(∀y∈os,y.nm∉xg)->Ww W1 pn! W'->Fr M rl M1 dh->Hg J_ ab! (FA t) Z_ et_ M1 R:=λM1 dh W1 xg B Y h3 h4 h5=>
   b2b (o:=o) (q:=q) (kq:=kq) (wd:=wd) (e0:=e0) hq os x1 po! (some x.nm) M1 dh W1 W' xg bo_ R po_ h3 nd.2 B Y h4 a! ((yS_).1.trans oy) (yS_).2 (λM' ae y' z' g1 g2 g3=>hR M' ae y' z' (by rw[yT!];exact g1) g2 (h5.trans g3))
  by_cases c:kget kq x.nm=none
  .rw[c,gV_];have hc:∀(K:s_),Nl t [bc!,x.nm,x.d] M K->Am 3 (Nl t) sl_ et_ M K:=λK h=>by
    simp only[Am,Ab,Af,wl,f1',f4,f3'];exact bn!
   refine gG (hc _ ?_);obtain⟨k,a,e,hk,_,xh⟩|⟨k,r,e,_,_,xh⟩:=uT jo
   .have:Rn wd hG!=Rn wd os:=by unfold Rn;rw[KB (by simp[xh])]
    rw[this]at L;rw[e];exact c3b hk (rest M rl W pre n4_ w pp! L .refl)
   .have b9:¬kget wd x.nm=some b8_:=λz=>absurd c (hu.mpr ⟨xh,z⟩);have:Rn wd hG!=x::Rn wd os:=by unfold Rn;rw[KJ (by simp[xh,b9])]
    rw[this]at L;cases L with
    |cons hs L=>
     have w1:=b6m hs w kJ!;refine c3a hO w kJ! hs a! λM1 dh B Y=>rest M1 dh _ _ B w1 yV! L Y;obtain z|z:=HU.mp z
     .exact hp y d7! z
     .rw[IG]at z;exact nd.1 yV_
  .have hU:=hu.mp c;obtain⟨v,hv⟩:=Option.ne_none_iff_exists'.mp c;rw[hv,F!];unfold Bq;have:Rn wd hG!=Rn wd os:=by unfold Rn;rw[KB (by simp[hU.1,hU.2])]
   rw[this]at L;exact rest M rl W pre n4_ w pp! L .refl
def Ce.live{rl:bU!}{h1:Nat}(h:aC_)(hb:rl b≠.oth):M b≠none:=by obtain⟨_,_,_,_,_,_,_,_,_,_,_,_,hA⟩:=h;exact hA.live b hb
def Ce.keep{M':Mh}{rl:bU!}{h1:Nat}(hO:aC_)(k:yX!):Ce t M' o rl W h1:=by
 obtain⟨a1,a2,a3,a4,a5,a6,k1,k2,k3,k4,k5,k6,hA⟩:=hO;refine⟨a1,a2,a3,a4,a5,a6,k1,k2,k3,k4,k5,k6,{hA with ob:=?_,d1:=?_,d2:=?_,d3:=?_,d4:=?_,d5:=?_,d6:=?_,row:=?_,txt:=?_,num:=?_,live:=?_}⟩
 .rw[k o P_];exact hA.ob
 .rw[k a1 bV!];exact hA.d1
 .rw[k a2 aD!];exact hA.d2
 .rw[k a3 a0_];exact hA.d3
 .rw[k a4 a1!];exact hA.d4
 .rw[k a5 aQ!];exact hA.d5
 .rw[k a6 aD_];exact hA.d6
 .intro x O;obtain⟨r',f',p',v1,v2,v3,v4,v5⟩:=hA.row x O;exact yX_
 .intro x O;obtain⟨r',f',p',v1,v2,v3,v4,v5⟩:=hA.txt x O;exact yX_
 .intro x O;obtain⟨q',v1,v2,v3⟩:=hA.num x O;exact⟨q',v1,(k _ bG_).trans v2,v3⟩
 .intro b hb;rw[k b hb];show"#$"
def b4m{ops:h!}(nd:eq_)(nn:yZ!)(hl:dv!)(hd:hz!)(L:Ww W0 (Rn hz_ a2!) W')
  (hR:∀o M' ae,M o=none->Ce t M' o ae W' 1500->yZ_->(∀b,M b≠none->M' b=M b/\ae b=.oth)->R ag! M'):Kf t co! M R:=by
 refine k!;show Ah sk_ _ yy_ M _;simp only[Ah,An];refine a2g λo rl M1 ho hO fr=>?_;have hc:∀(K:s_),Ma co! M1 K->Am 1 Ma bi! [bZ_,F_,none,none,none] M1 K:=λK h=>bn!;refine hc _ (b3s nd hl hd λq M2 ep kq hq f9 uq ik=>?_);have hi:Ey iF! y0!=some hw_:=uS (mO nd hl);show Dd (Jg _) _ (FA t) y0! M2 _;simp only[Dd,Jg,hi,Dx];have hp:(a2!).Perm ops:=cL ops;have jw:rl q=.oth:=by
  by_cases z:rl q=.oth
  .exact z
  .obtain⟨_,_,_,_,_,_,_,_,_,_,_,_,hA⟩:=hO;exact absurd hq (hA.live q z)
 have hO2:Ce t M2 o rl W0 2:=hO.keep λc hc=>ik c (hO.live hc);have xa:∀x∈ops,kget kq x.nm≠none↔Undn hz_ x:=λx O=>by
  rw[uq];show"!H"
  .rintro⟨y,hy,e,hu⟩;have:y=x:=b9c nn hy O e;rw[<-this];exact hu
  .exact λh=>⟨x,O,rfl,h⟩
 refine b2b (t:=t) (wd:=pc_) (e0:=ep) (ops:=ops) xa a2! hA! none none M2 rl W0 W' [] 2 _ (λx O=>⟨hp.mem_iff.mp O,hd x y0_⟩) y1! y2! hO2 c6o L kK_ f9 jw λM' ae y' z' g1 g2 g3=>?_;refine hR o M' ae ho (g1.mono kK_) g2 λb hb=>?_;obtain⟨e1,e2⟩:=fr b hb;have e3:=ik b nN!;have g4:=g3 b y2_ e2;exact⟨by rw[g4.1,e3,e1],g4.2⟩
def c0g(o:Op):∀{l:h!},Pb Op.key l->∃u v,l=u++v/\Rh Op.key o l=u++o::v/\(∀x∈u,Lh o.key x.key=false)/\∀x∈v,Lh o.key x.key=true
 |[],_=>⟨[],[],rfl,rfl,G_,G_⟩
 |y::l,h=>by
  unfold Pb at h;rw[KL]at h;unfold Rh;cases e:Lh o.key y.key with
  |true=>
   rw[j!];refine⟨[],y::l,rfl,rfl,G_,aZ_⟩;obtain rfl|O:=HQ.mp O
   .exact e
   .exact jV e (h.1 x O)
  |false=>
   rw[F!];obtain⟨u,v,e1,e2,e3,e4⟩:=c0g o h.2;refine⟨y::u,v,by rw[e1];rfl,by rw[e2];rfl,aZ_,e4⟩;obtain rfl|O:=HQ.mp O
   .exact e
   .exact e3 x O
def d2q(a b c d:Int):HT.lexLt ak_ [c,d]=Lh aa_ (c,d):=by
 rw[LQ,uQ,HT.lexLt_cons];by_cases h:a=c
 .rw[IA h,HT.lexLt_cons];by_cases h':b=d
  .rw[IA h'];simp[HT.lexLt_nil_nil];omega
  .rw[HR h',JE];show"#+";omega
 .rw[HR h,JE];show"#+";omega
def Zu(l:h!)(o:Op):Nat->Bool
 |0=>false
 |j+1=>match l[j]? with|some f=>Lh o.key f.key|none=>false
def CH:Ad->Option Bool:=Co tF! tG!
def b2h{l:h!}{o:Op}{k:Nat}(hk:k<=al_):CH [Q_,y3!,K_,cN!]=some (Zu l o k):=by
 cases k with
 |zero=>simp[CH,Co,fT,f2,Aa,fC,Kd,Cb,Zu]
 |succ j=>
  have hj:j<al_:=hk;have e1:l[j]?=some l[j]:=IM hj;have e2:Cw kL! kL_=some (cp_).v:=by
   show"#,";simp[hj]
  have e3:Me 1 i0_ pr_=some (cp_).v:=by
   have:y3_ - 1=(j:Nat):=by omega
   simp[Me,f2,Aa,fC,Df,Cb,this,e2]
  have e4:Ai (cp_).v bf_=some (.int (cp_).tm):=by simp[Op.v,Ai,Cw,Ea]
  have e5:Ai (cp_).v O!=some (.int (cp_).h):=by simp[Op.v,Ai,Cw,Ea]
  have e6:Ai o.v bf_=some fG_:=by simp[Op.v,Ai,Cw,Ea]
  have e7:Ai o.v O!=some cq!:=by simp[Op.v,Ai,Cw,Ea]
  have e8:BH (.tup [.int (cp_).tm,.int (cp_).h]) yg!=some (.bl (Lh o.key (cp_).key)):=by
   simp[BH,Sk,d2q,Op.key]
  have e9:Kd pr! O!=some C!:=by simp[Kd,Cb]
  have f3:Aa 3 pr_=some pr!:=rfl;have ux:Aa 2 pr_=some o.v:=rfl;simp only[CH,Co,fT,f2,f3,fC,LX,e9,Az,Ac,Ag,e3,e4,e5,ux,e6,e7,JT,IH,MN,show(0+1+1:Nat)<=1000 by omega,e8,Zu,e1]
def a5v{o:Op}{u v:h!}(B:∀x∈u,Lh o.key x.key=false)(Y:∀x∈v,Lh o.key x.key=true)(R:j_)(hR:R (.nx kN!) M):
  ∀(m:Nat),m<=v.length->∃n,Bz (Da CH) mZ! n [Q_,pt!,K_,some (.int pu_)] M R
 |0,hm=>by
  refine g0!;have et:=b2h (x0:=x0) (o:=o) (l:=u++v) (k:=b2_) d_;have ef:Zu bm! o b2_=false:=by
   cases hu:b2_ with
   |zero=>rfl
   |succ j=>
    have:bm![j]?=some (u[j]' a!):=by rw[KO a!,IM a!]
    simp only[Zu,this];exact B _ hI!
  rw[ef]at et;simp only[Bz,Da,Nat.add_zero,et];exact hR
 |m+1,hm=>by
  obtain⟨n,hn⟩:=a5v B Y R hR m a!;refine⟨n+1,?_⟩;have et:=b2h (x0:=x0) (o:=o) (l:=u++v) (k:=b2_+(m+1)) bN!;have ef:Zu bm! o (b2_+(m+1))=true:=by
   show Zu bm! o (b2_+m+1)=true;have:bm![b2_+m]?=some (v[m]' a!):=by rw[KA a!,show u.length+m - u.length=m by omega,IM a!]
   simp only[Zu,this];exact Y _ hI!
  rw[ef]at et;have es:f2 Df O_ v_ [Q_,pt!,K_,some (.int pv!)]=some (.int pu_):=by
   have:pv! - 1=pu_:=by omega
   show Df (.int pv!) ay_=_;simp only[Df,Cb,this]
  simp only[Bz,Da,et,JT,An,wl,es];exact hn
def GC:WS:=Ah tE! (Ah (Iv (Da CH) mZ!) tH_)
def b2j:∀(os:h!) (x0:D) (y z:ah!) (acc:h!) (R:j_),Pb Op.key acc->((acc++os).map Op.key).Nodup->cO_+V!<1000->
  (∀db y' z',Pb Op.key db->db.Perm (acc++os)->R (.nx [Q_,some (.lst (db.map Op.v)),y',z']) M)->Hg bO! ab! GC Z_ [Q_,hI_,y,z] M R
 |[],x0,y,z,acc,R,hs,nd,hl,hR=>⟨trivial,hR acc y z hs d_⟩
 |o::os,x0,y,z,acc,R,hs,nd,hl,hR=>by
  refine aL!;show Ah (An 3 _) _ pv_ M _;obtain⟨u,v,e1,e2,e3,e4⟩:=c0g o hs;simp only[IH]at hl;have el:Ii ge! pv_=some y7_:=by
   have:f1 Bf c3_ pv_=some y7_:=by
    show Bf [.lst y6_]=_;simp[Bf]
   unfold Ii;rw[this];rfl
  simp only[Ah,An,wl,el];have am:cO_=b2_+v.length:=by rw[e1,IL]
  rw[am,e1];refine a5v e3 e4 _ ?_ v.length x_;have ei:Ro 1 O_ x! kN!=some (.nx [Q_,some (.lst ((kO_).map Op.v)),K_,some pt_]):=by
   have:(bm!).length<big:=by unfold big;rw[IL];omega
   have e3:Aa 3 kN!=some pt_:=rfl;have e2:Aa 2 kN!=some o.v:=rfl;unfold Ro;rw[e3,e2];show(if 0<=(pu!:Int)/\(pu!:Int).toNat<=(ps_).length/\(ps_).length<big then _ else none)=_;rw[IA ⟨t_,G_,by rw[IF];exact this⟩];simp
  simp only[Tp,ei,Dx];have hp:(kO_).Perm (acc++[o]):=by rw[e1];simpa using(QD (a:=o) (l₁:=u) (l₂:=v)).trans (List.perm_append_comm (l₁:=[o]) (l₂:=u++v))
  have bx:Pb Op.key kO_:=by
   rw[<-e2];refine xJ hs λy hy=>?_;rw[IW,JB]at nd;exact λz=>nd.2.2 _ (IE hy) o.key d_ z.symm
  have gb:((u++o::v++os).map Op.key).Nodup:=by
   have:(u++o::v++os).Perm (acc++o::os):=by
    have:=hp.append_right os;simpa using this
   exact(this.map _).nodup_iff.mpr nd
  exact b2j os x0 _ _ kO_ R bx gb (by have:=hp.length_eq;simp at this;simp;omega) λdb y' z' B Y=>hR db y' z' B (Y.trans (by have:=hp.append_right os;simpa using this))
def vY{ops:h!}(nd:eq_)(hl:dv!)(hR:R (.lst hw_) M):Fw co! M R:=by
 refine k!;show Ah iy! (Ah (Dd (Jg eR_) bO! GC) cx_) y9_ M _;have e1:Lp 1 Ag y9_=some (.nx za!):=by simp[Lp,Ag]
 have e2:Ey l! za!=some eq!:=rfl;simp only[Ah,Tp,e1,Dx,Dd,Jg,e2];refine b2j ops _ none none [] _ (ju_) (by simpa using nd) bN! λdb y' z' B Y=>?_;have:db=Ju ops:=pJ B (jQ nd) (by simpa using Y.trans (by simpa using(cL ops).symm));rw[this];exact hR
def a7d{neg:Bool}:Hs neg M U_ os_=some (.bl (if neg then ! ot! else ot!)):=by show Hs.inS neg M U_ os_=_;simp[Hs.inS,Pq,Bh,Bp,Ij,Dj,a3t]
def GF:WS:=Aq tJ! tK! Bq
def d1y{o:Op}(ho:DG o.d):∃k r,o.d=.tup dr!/\(Hk o.d=none->hv_=false/\(k=="redo")=false)/\(∀u,Hk o.d=some u->r=[u.2]/\k=u.1/\ye!/\NameG u.2):=by
 obtain⟨k,a,e,hk,ir,hu⟩|⟨k,r,e,B,Y,hu⟩:=uT ho
 .exact⟨k,[a],e,(λz=>by rw[z]at hu;cases hu),(λu uy=>by rw[hu]at uy;cases uy;exact⟨rfl,rfl,hk,ir⟩)⟩
 .exact⟨k,r,e,(λ_=>pw_),(λu uy=>by rw[hu]at uy;cases uy)⟩
def c0b{o:Op}(e:o.d=.tup dr!):o5_=some U_:=by
 have e3:Ai o.v bg!=some o.d:=by simp[Op.v,Ai,Cw,Ea]
 rw[e3,e];show Cw (D.str k::r) 0=_;show"!n"
def b1d{k:Str}(hk:x7_):px!=true:=by
 obtain rfl|rfl:=hk
 .rw[yk!];rfl
 .rw[yk_];simp
def a2k:∀(os:h!) (x1:D) (y:ah!) (acc:h_) (ep:Nat) (M:Mh) (R:j_),o8!->cO_+V!<1000->M p=some o8_->
  (∀M' ay y',M' p=some (.dct (Pg o7! os acc) ay)->kA!->R yn! M')->
  Hg bO! ab! GF Z_ o7_ M R
 |[],x1,y,acc,ep,M,R,_,_,hp,hR=>yn_
 |o::os,x1,y,acc,ep,M,R,hd,hl,hp,hR=>by
  refine aL!;show GF bZ! M _;show Aq _ _ _ bZ! M _;have ho:=hd o HV;simp only[IH]at hl;obtain⟨k,r,e,hn,hs⟩:=d1y ho;have i0:f2 Ai a7! B_ bZ!=some U_:=c0b e;simp only[Aq,wT,w2,wl,i0,fC,a7d];cases hu:Hk o.d with
  |none=>
   obtain⟨B,Y⟩:=hn hu;have:px!=false:=by rw[zb_,zc!,B,Y];rfl
   rw[this];exact a2k (p:=p) os x1 hy! acc ep M R hy_ a! hp yq!
  |some u=>
   obtain⟨g1,g2,hk,ir⟩:=hs u hu;rw[b1d hk];obtain⟨ka,kg⟩:=zO ir;have i1:f2 Ai a7! v_ bZ!=some u.2:=by
    have e3:Ai o.v bg!=some o.d:=by simp[Op.v,Ai,Cw,Ea]
    show yo!;rw[e3,e,g1];show Cw [D.str k,u.2] 1=_;simp[Cw,Ea]
   have i2:f2 Aw go! kC! bZ!=some fA!:=by
    show(f2 Ai a7! B_ bZ!).bind (λx=>Aw x b8_)=_;rw[i0];exact gV k _
   have g9:=hJ (y:=u.2) (v:=.bl hv_) hp kg hk!;have:=a2k (p:=p) os x1 hy! zc_ zd! (Bd M p (.dct zc_ zd!)) R hy_ (by have:=kput_len acc u.2 fA!;omega) mup_same (λM' ay y' B Y=>hR M' ay y' (by
    unfold Pg;rw[hu];obtain⟨u1,u2⟩:=u;dsimp only at g2 B ⊢;rw[<-g2];exact B) λb hb=>(Y b hb).trans o9!)
   rw[gV_];simp only[Bw,wl,i1,i2,d2a,g9,Dx];show"#D"
def b0d{ops:h!}(nd:eq_)(hl:dv!)(hd:hz!)
  (hR:∀p M' ep,M p=none->M' p=some (.dct (Pg o7! a2! []) ep)->kA!->R G! M'):Ml co! M R:=by
 refine k!;intro p hp;have bo:(a2!).Perm ops:=cL ops;have hc:∀(K:s_),Fw co! fL_ K->Am 1 Fw bi! o9_ fL_ K:=λK h=>bn!;simp only[Ah,Dd,Cs];refine hc _ (vY nd hl ?_);exact a2k (p:=p) a2! hA! none [] 0 fL_ _ yq_ yr! mup_same yr_
end
def Bg(q:D×D):D:=.tup [q.1,q.2]
def Be(q:fd!):D:=.tup zd_
inductive LR
 |w|wt|wn|q (x:D)|oth
nonrec def k3(rows wt wn:D):List aF_:=[(.str "rows",rows),(.str "texts",wt),(.str "numbers",wn)]
section
variable{a b c v:D}
def c5v:¬(D.str di_=D.str d8!):=λz=>absurd py! u!
def c5w:¬(D.str di_=D.str fd_):=λz=>absurd py! u!
def c5s:¬(D.str d8!=D.str fd_):=λz=>absurd py! u!
def k3r:kget hJ_ dZ_=some a:=by show kQ!=_;rw[j!]
def k3t:kget hJ_ i4_=some b:=by show ze!=_;rw[HR c5v,j!]
def k3n:kget hJ_ m5_=some c:=by show(if _ then _ else ze!)=_;rw[HR c5w,HR c5s,j!]
def k3p:As hJ_ dZ_ v=k3 v b c:=by show kQ!=_;rw[j!];rfl
end
def mL{g:D->D}:∀{its:b!} {x:D},kget kS! x=if x∈its then some (g x)else none
 |[],x=>by simp[kget]
 |i::its,x=>by
  rw[HZ];unfold kget;by_cases e:i=x
  .subst e;simp
  .rw[HR e,mL];simp[HY e]
def a6l{g:D->D}{v:D}:∀{its:b!},its.Nodup->x∈its->As kS! x v=its.map λi=>(i,if i=x then v else g i)
 |[],_,h=>by cases h
 |i::its,nd,h=>by
  rw[IN]at nd;rw[HZ,HZ];unfold As;by_cases e:i=x
  .subst e;rw[j!];simp only[JT];congr 1;apply KQ;intro j hj;rw[HR λz:j=i=>nd.1 (z▸hj)]
  .rw[HR e];simp only[e,JM];rw[a6l nd.2 ((HQ.mp h).resolve_left (HY e))]
def zW{g:D->D}{v:D}{its:b!}(h:x∉its):As kS! x v=kS!++[(x,v)]:=iT (by rw[JR];simpa using h)
structure Vr(M:Mh)(w:xz!)(rl:dy_)(W:OW)(wt wn:xz!)(qa:D->Addr):Prop where
 mw:∃e,M w=some (.dct hK! e)
 mt:∃e,M wt=some (.dct (W.its.map λi=>(i,.lst kS_)) e)
 mn:∃e,M wn=some (.dct (W.its.map λi=>(i,.fn fJ!)) e)
 mq:∀i∈W.its,M fJ!=some (.lst jH_)/\rl fJ!=.q i
 rw_:rl w=.w
 rt:rl wt=.wt
 rn:rl wn=.wn
 live:∀b,rl b≠.oth->M b≠none
def Bt(M:Mh)(w:xz!)(rl:dy_)(W:OW):Prop:=∃wt wn qa,Vr M w rl W wt wn qa
def Tn(M:Mh)(rl:dy_)(M':Mh)(ae:dy_):Prop:=∀b,M b≠none->rl b=.oth->M' b=M b/\ae b=.oth
def Tn.refl{M:Mh}{rl:dy_}:Tn M rl M rl:=λb _ h=>bn!
def Tn.trans{M M1 M2:Mh}{rl dh qk:dy_}(B:Tn M rl M1 dh)(Y:Tn M1 dh M2 qk):Tn M rl M2 qk:=λb hb L=>by
 show"!s"
section
variable{M:Mh}{R:D->Mh->Prop}{w:xz!}{rl:Addr->LR}{W:OW}{ρ:Ad}
def fN{ep:Nat}(h:bG!)(hk:b0!):Br M G! y=kget kvs y:=by simp[Br,h,hk]
def ixw{ep:Nat}{v:D}(h0:Aa 0 ρ=some G!)(h:bG!)(hv:kget kvs aE_=some v)(K:s_):w2 Br i_ (wl (fC aE_)) ρ M K=K v M:=by have:Br M G! aE_=some v:=(fN (k:=some (.inl (.inr s))) h rfl).trans hv;simp only[w2,wl,h0,fC,this]
def uR{q:D×D}:Ai ew! O!=some q.1:=by simp[Bg,Ai,Cw,Ea]
def a3l{q:D×D}:Ai ew! ay_=some q.2:=by simp[Bg,Ai,Cw,Ea]
def kI{W:OW}(w:By W):∀q∈W.rows,Ik q.1/\Sd q.2/\Ft W q.2:=λq hq=>⟨w.nm _ ((w.ri q.1).mp (IE hq)),a3p w (w.rp q.1 q.2 hq),w.rp q.1 q.2 hq⟩
def a4l(h:aa!)(wi:By W)(O:Sd x)(hl:fJ_)(hR:R d9_ M):Hy [cq_,x] M R:=by
 show"!y";obtain⟨e,hw⟩:=hA.mw;refine k!;show Ay pz! kT! M _;simp only[Ay,Ca,Cs,ixw (ρ:=kT!) rfl hw k3r];refine du!;refine cR (λd=>match d with|.tup [_,p]=>decide (p=x)|_=>false) (λd=>match d with|.tup [i,_]=>i|_=>.non) trivial _ _ bI! ?_
 .show"!=";show"#6";refine pz_
  .have e1:fT um! cO!=some zf!:=by
    have:f2 Aw dJ! u_ cO!=some (.bl zf!):=by
     show(Ai ew! ay_).bind zf_=_;rw[a3l];exact nQ Y O
    show"!A"
   simp only[Da,e1];exact hK
  .have e1:f2 Ai l! B_ cO!=some q.1:=uR;simp only[wl,e1];exact hK
 .have e2:(((fI!).filter λd=>match d with|.tup [_,p]=>decide (p=x)|_=>false).map λd=>match d with|.tup [i,_]=>i|_=>.non)=chl W.rows x:=by
   unfold chl;rw[NJ,JR];rfl
  rw[e2];exact hR
end
def b5u(ha:Sd a)(hb:Sd b)(hc:Sd c)(hd:Sd d):Aw hK_ (.tup [c,d])=some (.bl (decide (a=c/\b=d))):=by
 unfold Aw;have d1:=jM ha;have d2:=jM hb;have e:Dw hK_ (.tup [c,d])=decide (a=c/\b=d):=by
  simp only[Dw,Io,mP ha hc,mP hb hd,Bool.and_true];by_cases B:a=c<;>by_cases Y:b=d<;>simp[B,Y]
 rw[e];simp only[Bh,Bp,eB ha,eB hb,eB hc,eB hd,Ij,Dj,Bool.and_true,Bool.true_and];rw[ea!]
def c1h{xs:b!}{k:Nat}(h:k<=k_):Bl R! none kT_=some (.lst (xs.take k)):=by
 have e:HT.sIx xs.length xs.length kT_=k:=by rw[HT.sIx_nat];omega
 simp only[Bl];congr 2;unfold Di;rw[e,HT.sIx_none];simp
def a7v{xs:b!}{k:Nat}(h:k<=k_):Bl R! kT_ none=some (.lst (xs.drop k)):=by
 simp only[Bl];congr 2;have e:HT.sIx xs.length 0 kT_=k:=by rw[HT.sIx_nat];omega
 have e2:HT.sIx xs.length xs.length none=k_:=rfl;unfold Di;rw[e,e2,LA d_]
section
variable{M:Mh}{R:D->Mh->Prop}{w:xz!}{rl:Addr->LR}{W:OW}{ρ:Ad}
def DO:Ad->Option Bool:=Co tM! tN_
def c4n{rs:h_}{k:Nat}(hk:k<=N!)(hl:N!<5000)(jc:zg!)(hp:Sd p):DO bu!=some zg_:=by
 have el:f1 Bf gk_ bu!=some kU!:=by
  show zi!;simp[Bf]
 have e5:Aa 5 bu!=some cM_:=rfl;have e2:Aa 2 bu!=some p:=rfl;by_cases c:k<N!
 .have e1:rs[k]?=some rs[k]:=IM c;have ea:Cw ew_ an_=some kV!:=by
   show"#,";simp[c]
  have e3:f2 Ai H_ E_ bu!=some kV!:=ea;have e4:Jk cM_ kU!=some C!:=by simp[Jk,Cb];exact c
  have e6:Eu (fK_).2 p=some zj!:=a2d (jc _ hI!).2 hp;have e7:f2 Eu tN! x! bu!=some zj!:=by
   show((f2 Ai H_ E_ bu!).bind λx=>Ai x ay_).bind (λz=>Eu z p)=_;rw[e3];show(Ai kV! ay_).bind _=_;rw[a3l];exact e6
  have e8:f2 Jk E_ gD_ bu!=some C!:=by
   show zk_;rw[el];exact e4
  simp only[DO,Co,fT,e8,e7,LX,JT,e1]
 .have e1:rs[k]?=none:=JZ a!;have e4:Jk cM_ kU!=some X_:=by simp[Jk,Cb];omega
  have e8:f2 Jk E_ gD_ bu!=some X_:=by
   show zk_;rw[el];exact e4
  simp only[DO,Co,fT,e8,LX,e1];rfl
def c1m{rs:h_}{k:Nat}(hk:k<N!)(h:chl pA_ p=[])(hp:(fK_).2≠p):chl (rs.take R_) p=[]:=by rw[MJ hk,eI,h];rw[tY hp];rfl
def a7f{rs:h_}(hl:N!<5000)(jc:zg!)(hp:Sd p)(R:j_)(hR:∀k:Nat,k<=N!->chl pA_ p=[]->R (.nx bu!) M):
  ∀(m k:Nat),N! - k=m->k<=N!->chl pA_ p=[]->∃n,Bz (Da DO) tO_ n bu! M R
 |m,k,hm,hk,hc=>by
  have et:=c4n (x0:=x0) (i:=i) (s:=s) (y:=y) hk hl jc hp;by_cases c:k<N!/\(rs[k]?.map C_)≠some p
  .obtain⟨c1,c2⟩:=c;have e1:rs[k]?=some rs[k]:=IM c1;rw[e1]at et c2;have c3:(fK_).2≠p:=λz=>c2 (by rw[<-z];rfl);rw[show(match(some rs[k]:Option aF_)with|some q=>!decide (q.2=p)|none=>false)=true by simp[c3]]at et;cases m with
   |zero=>omega
   |succ m=>
    obtain⟨n,hn⟩:=a7f hl jc hp R hR m R_ a! a! (c1m c1 hc c3);refine⟨n+1,?_⟩;have es:f2 Al E_ v_ bu!=some pB!:=by
     show pC!;simp[Al]
    simp only[Bz,Da,et,JT,An,wl,es];exact hn
  .refine g0!;have ef:zg_=false:=by
    cases e:rs[k]? with
    |none=>rfl
    |some q=>
     have c1:k<N!:=(IJ.mp e).1;have:q.2=p:=by
      by_cases z:q.2=p
      .exact z
      .exact absurd ⟨c1,by rw[e];simp[z]⟩ c
     simp[this]
   rw[ef]at et;simp only[Bz,Da,et];exact hR k hk hc
def GI:WS:=Aq tS! tT! Bq
def GQ(rs:h_)(s p:D)(k0 k at_:Nat):Prop:=(at_=k0/\∀j<k,rs[j]?≠some dg!)\/∃j<k,rs[j]?=some dg!/\at_=j+1
def b0h{rs:h_}{k0:Nat}(hl:N!<5000)(jc:∀q∈rs,Sd q.1/\Sd q.2/\q.1≠.non)(hp:Sd p)(hs:Sd s)(R:j_)(hR:∀(a:Nat) y,GQ rs s p k0 rs.length a->R (.nx zm!) M):
  ∀(m k a:Nat) (y:ah!),N! - k=m->k<=N!->GQ rs s p k0 k a->Hg gA! ab! GI zn_ zm! M R
 |0,k,a,y,hm,hk,ha=>⟨trivial,hR a y (by rw[show rs.length=k by omega];exact ha)⟩
 |m+1,k,a,y,hm,hk,ha=>by
  have c1:k<N!:=by omega
  rw[List.range'_succ,HZ];refine aL!;show GI ex! M _;have e1:rs[k]?=some rs[k]:=IM c1;obtain⟨q1,q2,q3⟩:=jc rs[k] hI!;have ea:f2 Ai H_ ac! ex!=some kV!:=by
   show Cw ew_ an_=_;show"#,";simp[c1]
  have et:f2 Aw tP_ tQ_ ex!=some (.bl (decide ((fK_).1=s/\(fK_).2=p))):=by
   show(f2 Ai H_ ac! ex!).bind (λz=>Aw z (.tup [s,p]))=_;rw[ea];exact b5u q1 q2 hs hp
  have en:f2 Ap O_ cm! ex!=some (.bl (!Cj s)):=rfl;have cond:Co tP! tR! ex!=some (decide (rs[k]=dg!)):=by
   simp only[Co,fT,en,et,LX];by_cases z:s=.non
   .rw[show Cj s=true from a0b.mpr z];have:¬rs[k]=dg!:=λy=>q3 wu_;simp[this]
   .rw[jW z];simp only[PP,JT];congr 1;rw[decide_eq_decide];exact⟨λy=>Prod.ext y.1 y.2,λy=>by rw[y];exact bN_⟩
  have es:f2 Al ac! v_ ex!=some pB!:=by
   show pC!;simp[Al]
  by_cases z:rs[k]=dg!
  .refine zp!;simp only[An,wl,es];exact b0h hl jc hp hs R hR m R_ R_ _ a! a! (.inr ⟨k,t_,by rw[e1,z],rfl⟩)
  .refine iU zq! ?_;refine b0h hl jc hp hs R hR m R_ a _ a! a! ?_;obtain⟨B,Y⟩|⟨j,B,Y,h3⟩:=ha
   .refine .inl ⟨B,j6!⟩;by_cases y:j=k
    .rw[y,e1];exact λx=>z (JN x)
    .exact Y j a!
   .exact zq_
def Vr.setRows{qa:D->Addr}{rows':h_}{e:Nat}(hA:zr!):Vr (Bd M w pE_) w rl {W with rows:=rows'} wt wn qa/\Tn M rl (Bd M w pE_) rl:=by
 have aw:∀b,rl b≠.w->Bd M w pE_ b=M b:=λb hb=>mup_ne λz=>hb (by rw[z];exact hA.rw_);refine⟨⟨jJ_,?_,?_,fA_,hA.rw_,hA.rt,hA.rn,bA_⟩,zt!⟩
 .rw[aw wt pF!];exact hA.mt
 .rw[pG_];exact hA.mn
 .show"#5"
 .by_cases z:b=w
  .rw[z,mup_same];simp
  .rw[jQ_];show"#$"
def a8h(h:aa!)(jc:∀q∈W.rows,Sd q.1/\Sd q.2/\q.1≠.non)(hi:Sd i)(hp:Sd p)(hs:Sd s)(hl:ch!<4000)
  (hR:∀M' rows',Rl W.rows i p s rows'->Bt M' w rl {W with rows:=rows'}->Tn M rl M' rl->R .non M'):Go [cq_,i,p,s] M R:=by
 show"!y";obtain⟨e,hw⟩:=hA.mw;refine k!;show Ah (An 4 pz!) _ zw_ M _;simp only[Ah,An,Ca,Cs,ixw (ρ:=zw_) rfl hw k3r];refine du!;have sub:∀q∈wo W.rows i,q∈W.rows:=λq hq=>(nC_).1;have lw:(j3!).length<=ch!:=NH _ _;refine cR (λd=>match d with|.tup [a,_]=>!decide (a=i)|_=>false) id trivial _ _ bI! ?_
 .obtain⟨q,hq,rfl⟩:=IP.mp hd;obtain⟨B,_,_⟩:=jc q hq;refine⟨pH!,rfl,kx!,yd!⟩;have e1:fT tL_ pH!=some zx!:=by
   have:f2 Eu aI! u_ pH!=some (.bl zx!):=by
    show(Ai ew! O!).bind (λz=>Eu z i)=_;rw[uR];exact a2d B hi
   show"!A"
  simp only[Da,e1];exact hK
 have e2:((fI!).filter λd=>match d with|.tup [a,_]=>!decide (a=i)|_=>false).map id=(j3!).map Bg:=by
  rw[QV,NJ];unfold wo;congr 1;apply NQ;intro q _;simp[Bg]
 rw[e2];generalize XA:wo W.rows i=rs at *;have S':∀q∈rs,Sd q.1/\Sd q.2/\q.1≠.non:=λq hq=>jc q (sub q hq);refine a7f (M:=M) a! (λq hq=>⟨(S' q hq).1,(S' q hq).2.1⟩) hp _ (λk0 hk0 hc0=>?_) rs.length 0 a! a! (by rw[List.take_zero];rfl);have L:Em gD_ zx_=some ((List.range' 0 N!).map λj=>D.int kL_):=by
  have:f1 Bf gk_ zx_=some kU!:=by
   show zi!;simp[Bf]
  unfold Em;rw[this];show(if -1000<=pH_/\pH_<=100000 then some (Dp (pH_).toNat)else none)=_;rw[S_];simp[Dp,QO]
 simp only[Dd,Jg,L,Dx];refine b0h (M:=M) a! S' hp hs _ (λa y ha=>?_) rs.length 0 k0 none a! a! zz_;have uz:a<=N!:=by
  obtain⟨B,_⟩|⟨j,B,_,h3⟩:=ha<;>omega
 have ev:f2 Al tV! tV_ fM!=some kX_:=by
  have s1:Eo H_ Ax e4! fM!=some pI!:=c1h kY!;have s2:Eo H_ e4! Ax fM!=some zB!:=a7v kY!;have s3:Dl tU! fM!=some pI_:=rfl;have a1:Al pI! pI_=some zB_:=by
   show hn_;rw[kY_]
  have a2:Al zB_ zB!=some kX_:=by
   show hn_;rw[kY_];simp
  show((Eo H_ Ax e4! _).bind λx=>(Dl _ _).bind λz=>Al x z).bind (λx=>(Eo H_ e4! Ax _).bind λz=>Al x z)=_;rw[s1,s3,s2];show(Al pI! pI_).bind (λx=>Al x _)=_;rw[a1];exact a2
 have g9:Lf M bt_ dZ_ kX_=some (Bd M w (.dct (k3 kX_ fI_ ev_) (Gp hK! dZ_ e))):=by
  rw[hJ (k:=zD!) hw rfl (by show 3<big;decide),k3p]
 have f0:Aa 0 fM!=some bt_:=rfl;obtain⟨g1,g2⟩:=hA.setRows (rows':=rs.take a++bS!::rs.drop a) (e:=Gp hK! dZ_ e);have fin:=hR _ zA! ⟨rs.take a,rs.drop a,by rw[XA,OU],rfl,?_⟩ zE! g2
 .show Bw i_ gC_ (wl _) fM! M _;simp only[Bw,wl,ev,f0,fC,g9,Dx];exact fin
 .rw[XA];obtain⟨B,Y⟩|⟨j,B,Y,h3⟩:=ha
  .refine .inl ⟨cL!,by rw[B];exact hc0⟩;obtain⟨j,hj⟩:=ND.mp oo!;exact Y j (IJ.mp hj).1 hj
  .refine .inr ⟨rs.take j,?_⟩;have hj:j<N!:=(IJ.mp Y).1;rw[h3,MJ hj,(IJ.mp Y).2]
def b0j{rows:h_}(nd:fy_):(rows.filter λq=>decide hN_)=match rows.find? zF_ with|some q=>[q]|none=>[]:=by
 induction rows with
 |nil=>rfl
 |cons a r ih=>
  rw[HZ,IN]at nd;by_cases e:a.1=x
  .rw[KJ g6!,List.find?_cons_of_pos g6!];have:r.filter zF_=[]:=by
    rw[QG];intro q hq;simp only[JE];exact λz=>nd.1 (by rw[e,<-z];exact IE hq)
   rw[this]
  .rw[KB g6!,List.find?_cons_of_neg g6!,ih nd.2]
def b3n{W:OW}(wi:By W)(h:jG!):kZ_=[bb!]:=by
 rw[b0j wi.rnd];cases e:W.rows.find? λq=>decide hN_ with
 |none=>have:=List.find?_eq_none.mp e bb! h;simp at this
 |some q=>
  have B:=List.find?_some e;have Y:=List.mem_of_find?_eq_some e;simp at B;have:q.2=p:=jY wi.rnd (by rw[<-B];exact Y) h;obtain⟨a,b⟩:=q;dsimp only at B this ⊢;rw[B,this]
def c9w{W:OW}(wi:By W)(h:∀p,bb!∉W.rows):kZ_=[]:=by rw[QG];rintro⟨a,b⟩ hq;simp only[JE];exact λz=>h b vo_
def FD:WS:=Ah tW!
 (Ah tX!
 (An 1 gs_))
def zU(h:aa!)(wi:By W)(hl:fJ_)(hi:Ik i){rk:D->Nat}(g8:vF_):∀(n:Nat) (x:D) (y:ah!),rk x<n->Ft W x->∀(R':j_),(Wn W.rows i x->∀y',R' (.nx [A!,M!,M!,y']) M)->(¬Wn W.rows i x->R' (.rt X_) M)->
   ∃m,Bz (Da iA!) FD m fM_ M R'
 |0,x,y,hn,_,_,_,_=>by omega
 |n+1,x,y,hn,O,R',r1,r2=>by
  obtain⟨wt,wn,qa,hA⟩:=id h;obtain⟨e0,hw⟩:=hA.mw;have sx:=a3p wi O;have et:fT rO_ fM_=some pJ_:=by
   have:f2 Eu u_ x! fM_=some (.bl pJ_):=a2d sx hi.sd;show"!A"
  by_cases e:x=i
  .subst e;refine g0!;rw[show(!decide (x=x))=false by simp]at et;simp only[Bz,Da,et];exact r1 .here y
  .rw[show pJ_=true by simp[e]]at et;have body:∀(K:j_),(vG_->K (.rt X_) M)->(∀p,bb!∈W.rows->K (.nx [A!,cD!,M!,some pK!]) M)->FD fM_ M K:=λK g1 g2=>by
    show Ah (An 3 pz!) _ fM_ M _;simp only[Ah,An,Ca,Cs,ixw (ρ:=fM_) rfl hw k3r];refine du!;refine cR (λd=>match d with|.tup [a,_]=>decide (a=x)|_=>false) (λd=>match d with|.tup [_,p]=>p|_=>.non) trivial _ _ bI! ?_
    .show"!=";obtain⟨B,_,_⟩:=kI wi q hq;refine pz_
     .have e1:fT i4! cO!=some k0!:=by
       have:f2 Aw aI! u_ cO!=some (.bl k0!):=by
        show zH!;rw[uR];exact nQ B.sd sx
       show"!A"
      simp only[Da,e1];exact hK
     .have e1:f2 Ai l! v_ cO!=some q.2:=a3l;simp only[wl,e1];exact hK
    .have e2:(((fI!).filter λd=>match d with|.tup [a,_]=>decide (a=x)|_=>false).map λd=>match d with|.tup [_,p]=>p|_=>.non)=(kZ_).map C_:=by
      rw[NJ,JR];rfl
     rw[e2];by_cases c:∃p,bb!∈W.rows
     .obtain⟨p,hp⟩:=c;rw[b3n wi hp];refine iU rfl ?_;have e3:f2 Ai O_ B_ [A!,bE_,M!,some pK!]=some p:=rfl;simp only[An,wl,e3];exact g2 p hp
     .have c':∀p,bb!∉W.rows:=λp z=>c ⟨p,z⟩;rw[c9w wi c'];refine ifT rfl ?_;exact g1 c'
   obtain O|O:=O
   .obtain⟨p,hp⟩:=a9c wi O;have q:=a8l wi.rnd hp e;have:=g8 _ _ hp;have key:∀y',∃m,Bz (Da iA!) FD m [A!,cD!,M!,y'] M R':=λy'=>zU h wi hl hi g8 n p y' a! (wi.rp _ _ hp) R' vH! (λz=>r2 λv=>z (q.mp v));obtain⟨m,hm⟩:=key (some pK!);refine⟨m+1,?_⟩;simp only[Bz,Da,et,JT];exact body _ (λnt=>absurd hp (nt p)) λp' bo=>by rw[jY wi.rnd bo hp];exact hm
   .have nt:∀p,bb!∉W.rows:=by
     obtain rfl|rfl:=O
     .exact sD wi (b1r wi)
     .exact sD wi (c1t wi)
    refine g0!;simp only[Bz,Da,et,JT];exact body _ (λ_=>r2 (b6e nt e)) (λp hp=>absurd hp (nt p))
def c1v(h:aa!)(wi:By W)(hl:fJ_)(O:cC!)(hi:Ik i)(hR:∀b:Bool,(b=true↔Wn W.rows i x)->R bM_ M):Mm [cq_,x,i] M R:=by obtain⟨rk,g8⟩:=wi.rk;refine k!;exact zU h wi hl hi g8 (rk x+1) x none a! O _ (λz y'=>hR true f9!) (λz=>hR false f9!)
def c4l{neg:Bool}{ep:Nat}(h:bG!)(hk:b0!):Hs neg M y G!=some (.bl (if neg then !(hO!).isSome else(hO!).isSome)):=by simp[Hs,h,hk]
def c4j(O:Sd x)(ha:Sd a)(hb:Sd b):Hs false M x hK_=some (.bl (decide (x=a\/x=b))):=by
 have d1:=jM ha;have d2:=jM hb;have e:((ak_).any λd=>Dw d x)=decide (x=a\/x=b):=by
  simp only[MD,List.any_nil,Bool.or_false,mP ha O,mP hb O];by_cases B:a=x<;>by_cases Y:b=x<;>simp[B,Y,HY]<;>first|exact .inl B.symm|exact .inr Y.symm|exact⟨λz=>B z.symm,λz=>Y z.symm⟩|skip
 show Hs.inS false M x hK_=_;unfold Hs.inS;show(if Bh x&&Bp ak_&&decide (Dj ak_<=40)then some (D.bl (if false=true then _ else[a,b].any λd=>Dw d x))else none)=_;rw[IA (by simp[eB O,Bp,eB ha,eB hb,Dj];omega),e];rfl
def d2g{g:bs_}{fx:e!}{fb:WE}(O:fx ρ=some x)(K:s_):w2 g k0_ fb ρ M K=fb ρ M λy M2=>match g M2 x y with|some d=>K d M2|none=>False:=by simp only[w2,wl,O]<;>rfl
def b6l{W:OW}:(kget cr_ x).isSome=decide gY_:=by rw[mL];by_cases h:x∈W.its<;>simp[h]
def qO{fx:e!}(h:aa!)(h0:hO_)(O:fx ρ=some x)(hk:aT!)(K:s_):w2 bz! k0_ bj_ ρ M K=K (.bl (decide gY_)) M:=by obtain⟨wt,wn,qa,hA⟩:=h;obtain⟨e0,hw⟩:=hA.mw;obtain⟨e1,ht⟩:=hA.mt;have hi:=ixw (M:=M) (ρ:=ρ) (s:=hD_) h0 hw k3t;have e:=c4l (neg:=false) ht hk;rw[show(if false=true then _ else(kget cr_ x).isSome)=decide gY_ from b6l]at e;rw[d2g O,hi,e]
def a8g(h:aa!)(wi:By W)(hl:ch!<4000)(hi:Sd i)(O:Sd x)(hs:Sd s)(cn:fe_)(gk:nP_)
  (hR:∀M' W',(eb!->∃rows',Rl W.rows i x s rows'/\W'={W with rows:=rows'})->(¬eb!->W'=W)->Bt M' w rl W'->Tn M rl M' rl->R .non M'):Jm [cq_,i,x,s] M R:=by
 refine k!;show Aq (Fo (wT _) (Wk (wT _) (wT _))) _ Bq dz! M _;have g1:=qO (ρ:=dz!) (fx:=Aa 1) h rfl rfl cn;have g2:=qO (ρ:=dz!) (fx:=Aa 2) h rfl rfl gk;have g3:∀K:D->Mh->Prop,w2 bz! D_ tZ! dz! M K=K (.bl (decide (x=root\/x=binn))) M:=λK=>by
  have ux:Aa 2 dz!=some x:=rfl;have:=c4j (M:=M) O (iJ "root") (iJ "bin");simp only[w2,wl,ux,fC,this]
 have no:(¬eb!)->R .non M:=λc=>hR M W (λz=>absurd z c) (λ_=>rfl) h .refl;have XB:i∈W.its->Ft W x->Aq t0_ t1_ Bq dz! M g0_:=λc1 c2=>by
  have hc:∀(K:s_),Mm [cq_,x,i] M K->Am 3 Mm (Ab i_ gj!) dz! M K:=λK h=>bn!;unfold Aq Lj wT;refine hc _ (c1v h wi a! c2 (wi.nm i c1) λb hb=>?_);cases b with
  |true=>exact no λz=>z.2.2 (hb.mp rfl)
  |false=>
   have nw:¬Wn W.rows i x:=λz=>by have:=hb.mpr z;cases this
   have jg:∀(K:s_),Go [cq_,i,x,s] M K->Am 4 Go t1! dz! M K:=λK h=>bn!;simp only[PP,JT];refine gG (jg _ (a8h h ed! hi O hs hl λM' rows' hg hL hF=>?_))
   .show"#6";exact⟨B.sd,Y,B.nn.1⟩
   .exact hR M' _ (λ_=>⟨rows',hg,rfl⟩) (λz=>absurd ⟨c1,c2,nw⟩ z) hL hF
 simp only[Aq,Fo,Wk,wT,g1];by_cases c1:i∈W.its
 .rw[IT c1];simp only[JT,g2];by_cases c2:x∈W.its
  .rw[IT c2];exact XB c1 (.inl c2)
  .rw[IK c2];simp only[JA,JM,g3];by_cases c3:x=root\/x=binn
   .rw[IT c3];exact XB c1 (.inr c3)
   .rw[IK c3];exact no λz=>z.2.1.elim c2 c3
 .rw[IK c1];exact no λz=>c1 z.1
end
def Xy:WS:=(Ah t2_
 (Ah m4_
 (Ah m6_
 m8!)))
def Xx:WS:=t5!
def DH:WS:=t7!
def Tg:WS:=(Ah i9!
 (Ah na!
 (Ah (Dd nb! (Bx 7) DH)
 (Ah ua!
 uc!))))
def Xz:WS:=(Ah ud_
 (Ah i9!
 ue_))
abbrev knd(k:Str):Ad->Option Bool:=fT (f2 Aw bi_ (fC U_))
abbrev Ur:WT:=wT gG!
def c2s:Xq=Ah m3_ (Ah m4!
 (Aq zK_ Xy (Aq zL! m8_ (Aq zL_ m9_
  (Aq zM! Xx zN_))))):=rfl
section
variable{M:Mh}{R:D->Mh->Prop}{w:xz!}{rl:Addr->LR}{W:OW}{ρ:Ad}{pre:List D}
def b9s(h:pM!):knd k' ρ=some ku_:=by
 have e:Ai eo_ O!=some U_:=by
  show oS_;show"!n"
 have:f2 Aw bi_ (fC oS!) ρ=some (.bl ku_):=by
  show((k2!).bind λx=>Ai x O!).bind (λx=>Aw x oS!)=_;rw[h];show(Ai eo_ O!).bind _=_;rw[e];exact gV k k'
 unfold knd fT;rw[this];rfl
def p1(h:zO!):f2 Ai x! v_ ρ=some a:=by show(k2!).bind (λx=>Ai x ay_)=_;rw[h];exact ix1
def p2(h:Aa 2 ρ=some oT_):f2 Ai x! T! ρ=some b:=by show(k2!).bind (λx=>Ai x bf_)=_;rw[h];exact ix2
def p3(h:Aa 2 ρ=some oU_):f2 Ai x! ab_ ρ=some c:=by show(k2!).bind (λx=>Ai x bg!)=_;rw[h];exact ix3
def anF{ft:ad!}{fu:WT}{q1 q2:WS}{R:j_}(h:xX!)(k:fw!):Aq zO_ q1 q2 ρ M R:=by simp only[Aq,Fo,Da,h];exact k
def anT{ft:ad!}{fu:WT}{q1 q2:WS}{R:j_}{b:Bool}(h:xY_)(hu:∀K:Bool->Mh->Prop,K b M->fu ρ M K)(k1:zP!)(k2:zP_):Aq zO_ q1 q2 ρ M R:=by
 simp only[Aq,Fo,Da,h,JT];refine hu _ ?_;cases b with
 |true=>rw[j!];exact k1 rfl
 |false=>rw[F!];exact k2 rfl
def a3r(h:aa!)(h0:hO_)(Y:zO!)(hk:dp!)(K:fG!)(hK:K (decide (a∈W.its)) M):Ur ρ M K:=by unfold Ur wT;rw[qO h h0 (p1 Y) hk];exact hK
def Cz.sd(h:Cz x):Sd x:=by
 obtain rfl|rfl|⟨a,b,rfl,_⟩:=h
 .exact iJ _
 .exact iJ _
 .exact .inr nN_
def Mt.sd(h:Mt x):Sd x:=by
 obtain rfl|⟨a,b,rfl,_⟩:=h
 .exact cY!
 .exact .inr nN_
def Kz.sd(h:Kz x):Sd x:=by
 obtain rfl|⟨a,b,c,rfl,_⟩:=h
 .exact cY!
 .exact .inr vC!
def Vr.setTx{qa:D->Addr}{l:af_}{e:Nat}(hA:zr!)(nd:nB!)(ha:d6_):Vr (Bd M wt pM_) w rl nI_ wt wn qa/\Tn M rl (Bd M wt pM_) rl:=by
 have aw:∀b,rl b≠.wt->Bd M wt pM_ b=M b:=λb hb=>mup_ne λz=>hb (by rw[z];exact hA.rt);refine⟨⟨?_,gO_,?_,fA_,hA.rw_,hA.rt,hA.rn,bA_⟩,zt!⟩
 .rw[aw w pO!];exact hA.mw
 .rw[mup_same,a6l nd ha];congr 2;apply KQ;intro i _;show(i,if i=a then D.lst k2_ else D.lst kS_)=(i,D.lst ((if i=a then l else W.txt i).map Be));split<;>rfl
 .rw[pG_];exact hA.mn
 .show"#5"
 .by_cases z:b=wt
  .rw[z,mup_same];simp
  .rw[jQ_];show"#$"
def c0w{p v:Int}{R:j_}(h:aa!)(wi:By W)(ha:d6_)(hk:dp!)(h0:hO_)(Y:Aa 2 ρ=some ks_)(p0:0<=p)(p3':p<=3)
  (hR:∀M',Bt M' w rl (Tz W a kt!)->Tn M rl M' rl->R aM_ M'):Xx ρ M R:=by
 obtain⟨wt,wn,qa,hA⟩:=h;obtain⟨e0,hw⟩:=hA.mw;obtain⟨e2,hn⟩:=hA.mn;obtain⟨hq,jw⟩:=hA.mq a ha;have hi:=ixw (M:=M) (ρ:=ρ) (s:=ph!) h0 hw k3n;have hg:Br M ev_ a=some pO_:=by rw[fN hn hk,mL,IA ha]
 have O:Ea (oM!).length p=some p.toNat:=by
  rw[wi.nl a ha];unfold Ea;rw[IA p0,S_]
 have g9:Lf M pO_ (.int p) (.int v)=some (Bd M (qa a) (.lst kt!)):=by simp[Lf,hq,O]
 have aw:∀b,rl b≠.q a->Bd M (qa a) (.lst kt!) b=M b:=λb hb=>mup_ne λz=>hb vL!;have fin:=hR _ ⟨wt,wn,qa,⟨by rw[aw w pO!];exact hA.mw,by rw[aw wt pF!];exact hA.mt,by rw[pG_];exact hA.mn,λi hi=>by
   by_cases c:i=a
   .subst c;refine⟨?_,jw⟩;rw[mup_same];simp[Tz]
   .obtain⟨g1,g2⟩:=hA.mq i hi;refine⟨?_,g2⟩;rw[aw _ (by rw[g2];simpa using c),g1];simp[Tz,c],hA.rw_,hA.rt,hA.rn,λb hb=>by
   by_cases z:b=qa a
   .rw[z,mup_same];simp
   .rw[jQ_];exact hA.live b hb⟩⟩ (λb _ L=>zs_)
 show Bw t4_ gp! (wl a7!) ρ M R;have e3:=p3 Y;have e2':=p2 Y;have e1:=p1 Y;have uw:∀K:D->Mh->Prop,w2 Br m7! b9_ ρ M K=K pO_ M:=λK=>by
  have st:∀{fo:WE} {fb:e!} {x y:D} (_:zQ_) (_:k3_) (K:s_),w2 Br fo er_ ρ M K=(match Br M x y with|some d=>K d M|none=>False):=λB Y K=>by
   unfold w2;rw[B];simp only[wl,Y]<;>rfl
  rw[st hi e1,hg]
 unfold Bw;simp only[wl,e3];rw[uw];simp only[wl,e2',g9,Dx];exact fin
def d2h{g:bs_}{fo:WE}{fb:e!}(B:zQ_)(Y:k3_)(K:s_):w2 g fo er_ ρ M K=(match g M x y with|some d=>K d M|none=>False):=by unfold w2;rw[B];simp only[wl,Y]<;>rfl
def b6j{fx:e!}(h:aa!)(h0:hO_)(O:fx ρ=some a)(hk:dp!)(ha:d6_)(K:s_):w2 Br bj_ k0_ ρ M K=K (.lst ex_) M:=by obtain⟨wt,wn,qa,hA⟩:=h;obtain⟨e0,hw⟩:=hA.mw;obtain⟨e1,ht⟩:=hA.mt;rw[d2h (ixw (M:=M) (ρ:=ρ) (s:=hD_) h0 hw k3t) O,fN ht hk,mL,IA ha]
def d0k{q:fd!}:Ai (Be q) O!=some q.1:=by simp[Be,Ai,Cw,Ea]
def d0j{q:fd!}:Ai (Be q) ay_=some q.2.1:=by simp[Be,Ai,Cw,Ea]
def d0i{q:fd!}:Ai (Be q) bf_=some pP_:=by simp[Be,Ai,Cw,Ea]
def c4k{neg:Bool}(O:Sd x)(hl:∀d∈l,Sd d):Hs neg M x (.lst l)=some (.bl (if neg then !decide (x∈l)else decide (x∈l))):=by
 have e:zS!=decide (x∈l):=by
  rw[LQ,List.any_eq_true,JE];show"!H"
  .rintro⟨d,hd,he⟩;rw[mP (hl d hd) O,JE]at he;rw[<-he];exact hd
  .intro h;exact⟨x,h,by rw[mP O O];simp⟩
 have n:∀l:List D,(∀d∈l,Sd d)->Bp l=true/\Dj l<=5:=λl=>by
  induction l with
  |nil=>intro _;simp[Bp,Dj]
  |cons a r ih=>
   intro h;obtain⟨i1,i2⟩:=ih λd hd=>h d (HP _ hd)
   have B:=eB (h a HV);have Y:=jM (h a HV);refine⟨by simp[Bp,B,i1],by simp[Dj];omega⟩
 obtain⟨n1,n2⟩:=n l hl;show Hs.inS neg M x (.lst l)=_;unfold Hs.inS;show(if Bh x&&Bp l&&decide (Dj l<=40)then some (D.bl (if neg=true then ! zS! else l.any λd=>Dw d x))else none)=_;rw[IA (by rw[eB O,n1];simp;omega),e]
def b7h{fx:e!}{fv:WE}{l:af_}{R:j_}(h:aa!)(nd:nB!)(hB:fN!<5000)(h0:hO_)(O:fx ρ=some a)(hk:dp!)(ha:d6_)(hv:∀K:D->Mh->Prop,K k3! M->fv ρ M K)
  (hR:∀M',Bt M' w rl nI_->Tn M rl M' rl->R aM_ M'):Bw bj_ k0_ fv ρ M R:=by
 show"!y";obtain⟨e0,hw⟩:=hA.mw;obtain⟨e1,ht⟩:=hA.mt;unfold Bw;refine hv _ ?_;rw[ixw (M:=M) (ρ:=ρ) (s:=hD_) h0 hw k3t];have g9:=hJ (y:=a) (v:=.lst k2_) ht hk cs!;simp only[wl,O,g9,Dx];obtain⟨g1,g2⟩:=hA.setTx (a:=a) (l:=l) (e:=Gp cr_ a e1) nd ha;exact hR _ zE! g2
def mZ{f:e!}{n:Nat}(h:f ρ=some (.int (n:Nat)))(hn:n<=100000):Em f ρ=some ((oo_).map λi=>D.int aG_):=by unfold Em;rw[h];show(if -1000<=pQ_/\pQ_<=100000 then some (Dp (pQ_).toNat)else none)=_;rw[S_];simp[Dp]
def c0y{g4 r5 r6 r7 r8:D}{x y z m:Int}{R:j_}(h:aa!)(wi:By W)(hB:fN!<5000)(ht:zT_)(ha:d6_)(hk:dp!)(m1:1<=m)(Z':m<=16)
  (hR:∀M' ρ',Bt M' w rl (setT W a (cutT vW_ av!))->Tn M rl M' rl->R cP! M'):
  Xz pR! M R:=by
 have Y:∀o4 o5 o6 o7 o8 o9,Aa 2 pR!=some em_:=λ_ _ _ _ _ _=>rfl;have hm:((m.toNat:Nat):Int)=m:=by omega
 have er:Em a7! pR!=some ((ee_).map λi=>D.int aG_):=mZ (by rw[p3 zU!,hm]) a!;show Ah (An 9 (Ca 1 [2] (Jg _) _ _ _)) _ _ M R;simp only[Ah,An,Ca,Jg,er,Dx];refine du!;refine cR fx_ (λd=>match d with|.int k=>.tup zU_|_=>.non) trivial _ _ bI! ?_
 .obtain⟨k,cr,rfl⟩:=IP.mp hd;refine⟨cP_,rfl,hu!,ep_⟩;have e1:f2 Ai u_ T! cP_=some ee!:=by
   show Ai em_ bf_=_;exact ix2
  have ue:Bl ee! none (some 2)=some jM_:=by simp[Bl,Di,HT.sIx]
  have e2:Eo gH! Ax c1_ cP_=some jM_:=by
   unfold Eo;rw[e1];exact ue
  have e3:f2 Ai gH! T! cP_=some fi!:=by
   show(f2 Ai u_ T! cP_).bind (λv=>Ai v bf_)=_;rw[e1];rfl
  have e4:f2 Al uc_ (Az nc_) cP_=some (.tup [fg!,fg_,.int (z+an_)]):=by
   have e5:Az nc_ cP_=some (.tup [.int (z+an_)]):=by
    have:f2 Al ud! l! cP_=some (.int (z+an_)):=by
     show(f2 Ai gH! T! cP_).bind (λv=>Al v hP_)=_;rw[e3];rfl
    unfold Az Ac;rw[this];rfl
   show(Eo _ _ _ _).bind (λu=>(Az _ _).bind λv=>Al u v)=_;rw[e2,e5];rfl
  simp only[wl,e4];exact hK
 rw[hu_,JR];show w2 Br bj_ b9_ [some bt_,some x0,some em_,some nm,o4,o5,o6,o7,o8,some (.lst ((ee_).map zW!))] M _;have eg:(ee_).map zW!=(ee_).map λk=>D.tup g4_:=rfl;rw[eg];generalize hg:(ee_).map (λk=>D.tup g4_)=cu at hR;have zl:∀d∈cu,Sd d:=λd hd=>by
  rw[<-hg]at hd;obtain⟨k,_,rfl⟩:=IP.mp hd;exact .inr (.inr (.inr ⟨[x,y,z+(k:Nat)],rfl⟩))
 rw[b6j (ρ:=[A!,Q_,k4_,fN_,o4,o5,o6,o7,o8,some hQ!]) h rfl (p1 zU!) hk ha];refine b7h (l:=cutT cu av!) h wi.nd hB rfl k5! hk ha hQ_ λM' g1 g2=>hR M' _ g1 g2;have ei:Ey E_ [A!,Q_,k4_,fN_,o4,hR!,o6,o7,o8,some hQ!]=some ex_:=rfl;simp only[Ca,Jg,ei,Dx];refine du!;refine cR fx_ (λd=>match d with|.tup [s,c,.bl b]=>Be zW_|_=>.non) trivial _ _ bI! ?_
 .obtain⟨q,hq,rfl⟩:=IP.mp hd;have sq:Sd q.1:=(zX!).sd;refine⟨hS!,rfl,hu!,ep_⟩;have e0:f2 Ai l! B_ hS!=some q.1:=d0k;have e1:f2 Ai l! v_ hS!=some q.2.1:=d0j;have e2:f2 Ai l! T! hS!=some pP_:=d0i;have e3:Aa 1 hS!=some hQ!:=rfl;have e4:Hs true M q.1 hQ!=some (.bl (!decide (q.1∈cu))):=c4k sq zl;simp only[Tr,Ab,Af,wl,e0,e1,Jw,wT,e2];cases hb:q.2.2 with
  |true=>
   rw[j!];simp only[w2,wl,e0,e3,e4];refine⟨G_,?_⟩;have:K (Be nS_) M:=by
    have:=hK;rw[zX_]at this;show"#D"
   rw[hb]at this;simpa[Be]using this
  |false=>
   rw[F!];refine⟨G_,?_⟩;have:K (Be nS_) M:=by
    have:=hK;rw[zX_]at this;show"#D"
   rw[hb]at this;simpa[Be]using this
 .rw[hu_,JR];have:(av!).map ((λd=>match d with|.tup [s,c,.bl b]=>Be zW_|_=>D.non)∘Be)=(cutT cu av!).map Be:=by
   unfold cutT;rw[JR];rfl
  rw[this];exact hK
def EC(l:af_)(b:D)(k a:Nat):Prop:=(a=0/\∀j<k,zY!≠some b)\/∃j<k,zY!=some b/\a=j+1
def a8k{o4:D}{l:af_}(hl:al_<5000)(hs:∀q∈l,Sd q.1)(hb:Sd b)(R:j_)(hR:∀(a:Nat) y,EC l b l.length a->R (.nx zZ!) M):
  ∀(m k a:Nat) (y:ah!),al_ - k=m->k<=al_->EC l b k a->Hg (Bx 7) ab! DH zn_ zZ! M R
 |0,k,a,y,hm,hk,ha=>⟨trivial,hR a y (by rw[show l.length=k by omega];exact ha)⟩
 |m+1,k,a,y,hm,hk,ha=>by
  have c1:k<al_:=by omega
  rw[List.range'_succ,HZ];refine aL!;show DH dz_ M _;have e1:l[k]?=some l[k]:=IM c1;have ea:f2 Ai E_ bh_ dz_=some (Be l[k]):=by
   show Cw k2_ an_=_;show"#,";simp[c1]
  have eb:f2 Ai x! T! dz_=some b:=p2 rfl;have et:f2 Aw t5_ dO! dz_=some (.bl zZ_):=by
   show((f2 Ai E_ bh_ dz_).bind λv=>Ai v O!).bind (λu=>(f2 Ai x! T! dz_).bind λv=>Aw u v)=_;rw[ea,eb];show(Ai (Be l[k]) O!).bind (λu=>Aw u b)=_;rw[d0k];exact nQ (hs _ hI!) hb
  have cond:fT t6! dz_=some zZ_:=by
   unfold fT;rw[et];rfl
  have es:f2 Al bh_ v_ dz_=some pB!:=by
   show pC!;simp[Al]
  by_cases z:(l[k]).1=b
  .refine zp!;simp only[An,wl,es];exact a8k (o4:=o4) hl hs hb R hR m R_ R_ _ a! a! (.inr ⟨k,t_,by rw[e1];exact congrArg some z,rfl⟩)
  .refine iU zq! ?_;refine a8k (o4:=o4) hl hs hb R hR m R_ a _ a! a! ?_;obtain⟨B,Y⟩|⟨j,B,Y,h3⟩:=ha
   .refine .inl ⟨B,j6!⟩;by_cases y:j=k
    .rw[y,e1];exact λx=>z (JN x)
    .exact Y j a!
   .exact zq_
def EC.wr{l:af_}{a:Nat}(h:EC l b l.length a)(nd:(et!).Nodup):wrT b nw l=l.take a++nw++l.drop a/\a<=al_:=by
 obtain⟨rfl,Y⟩|⟨j,B,Y,rfl⟩:=h
 .have nb:b∉l.map b_:=λz=>by
   obtain⟨j,hj⟩:=ND.mp z;rw[JG]at hj;have:j<al_:=by
    cases e:l[j]? with
    |none=>rw[e]at hj;cases hj
    |some q=>exact(IJ.mp e).1
   exact Y j this hj
  unfold wrT;rw[HR nb];simp
 .have hj:l[j]?=some l[j]:=IM B;rw[hj]at Y;have hb:(cp_).1=b:=JN Y;have e:l=l.take j++l[j]::l.drop (j+1):=by rw[<-LC B,OU]
  have nb:b∉(l.take j).map b_:=λz=>by
   rw[e]at nd;simp only[IW,HZ]at nd;rw[JB]at nd;exact nd.2.2 _ z _ d_ hb.symm
  have uw:b∈l.map b_:=by rw[<-hb];exact IE (JW B)
  refine⟨?_,t_⟩;unfold wrT;rw[IA uw]
  conv=>lhs;rw[e]
  rw[xI hb nb,MJ B];simp only[JL,MX,KZ]
def b3x(h n:Int)(s:Str):s.cps.toList.zipIdx.map eg_=(pS_).map λk=>(D.tup oM_,D.str k5_,true):=by
 apply RL;intro i;rw[JG,JG,List.getElem?_zipIdx];by_cases c:i<ha!
 .have c':i<aE!:=by simpa[Str.length]using c
  rw[IM c,List.getElem?_range c'];simp[sgn,List.getD,IM c];simp at c;simp[c]
 .have c':¬i<aE!:=by simpa[Str.length]using c
  rw[JZ a!,JZ bN!];rfl
def d1r{f g k:e!}(B:k6!)(Y:k6_)(h3:k ρ=some c):Az (Ac f z0!) ρ=some (.tup eE!):=by simp[Az,Ac,Ag,B,Y,h3]
def b0p{h n:Int}{s:Str}{R:j_}(hL:aa!)(wi:By W)(hB:fN!<5000)(ht:zT_)(ha:d6_)(hk:dp!)(hb:Sd b)(s16:jT_)
  (hR:∀M' ρ',Bt M' w rl (setT W a (wrT b ei! av!))->Tn M rl M' rl->R cP! M'):
  Tg pT! M R:=by
 show Ah (An 5 (w2 Br _ _)) _ pT! M R;unfold Ah An;rw[b6j (ρ:=pT!) hL rfl k5! hk ha];show Dd nb! (Bx 7) DH z0_ M _;have er:Em na_ z0_=some ((List.range (av!).length).map λi=>D.int aG_):=mZ (by
  show Bf [.lst ex_]=_;simp[Bf]) a!
 simp only[Dd,Jg,er,Dx,QO];refine a8k (M:=M) (o4:=.non) ht (λq hq=>(zX!).sd) hb _ (λat_ y TB=>?_) (av!).length 0 0 none a! a! zz_;obtain⟨ew,uz⟩:=TB.wr (nw:=s.cps.toList.zipIdx.map eg_) (wi.snd a ha);have cf:Em t8_ [A!,Q_,fO!,bp_,y4,hR!,pT_,y,none,none]=some ((pS_).map λi=>D.int aG_):=mZ (by
  unfold f1 Ac;rw[p3 (k:="write") (a:=a) (b:=b) (c:=dn!) (r:=[]) rfl];show Bf [dn!]=_;simp[Bf,big];omega) a!
 simp only[Ca,Jg,cf,Dx];refine du!;refine cR fx_ (λd=>match d with|.int k=>Be z1_|_=>.non) trivial _ _ bI! ?_
 .obtain⟨k,cr,rfl⟩:=IP.mp hd;have hk2:=NY.mp cr;refine⟨fO_,rfl,hu!,ep_⟩;have e1:f2 Al x! (Az a4_) fO_=some (.tup z4!):=rfl;have e2:f2 Ai u_ ab_ fO_=some aE_:=by
   show Ai fp_ bg!=_;exact ix3
  have hc:k<ha!:=by simpa[Str.length]using hk2
  have e3:Ai aE_ hP_=some (.str k5_):=by
   show(if aE!<=big then(Cw s.cps.toList an_).map _ else none)=_;rw[ds!];have:Cw s.cps.toList an_=some (s.cps.toList.getD k 0):=by
    unfold Cw Ea;rw[S_,S_];simp only[LX,LK];rw[IM hc,List.getD_eq_getElem?_getD,IM hc];rfl
   rw[this];rfl
  have e4:f2 Ai m3! l! fO_=some (.str k5_):=by
   show(f2 Ai u_ ab_ fO_).bind (λv=>Ai v hP_)=_;rw[e2];exact e3
  have e5:Az t9_ fO_=some (Be (.tup z4!,.str k5_,true)):=by
   exact d1r e1 e4 rfl
  simp only[wl,e5];exact hK
 rw[hu_,JR];have en:(pS_).map ((λd=>match d with|.int k=>Be z1_|_=>D.non)∘λi=>D.int aG_)=(ei!).map Be:=by
  rw[b3x,JR];apply KQ;intro k _;simp
 rw[en];show Bw bj_ _ _ [A!,Q_,fO!,bp_,y4,hR!,pT_,y,some (.lst ((ei!).map Be)),none] M _;have hnl:(ei!).length=aE!:=by simp[Str.length]
 refine b7h (l:=wrT b ei! av!) hL wi.nd hB rfl k5! hk ha hQ_ λM' g1 g2=>hR M' _ g1 g2;generalize hnw:s.cps.toList.zipIdx.map eg_=nw at *;have s1:Eo E_ Ax dc! pU_=some pV!:=c1h kY!;have s2:Eo E_ dc! Ax pU_=some z5_:=a7v kY!;have b1:Al pV! k7!=some z6_:=by
  show hn_;rw[kY_]
 have b2:Al z6_ z5_=some z7!:=by
  show hn_;rw[kY_,ew];simp
 have ev:f2 Al ub! ub_ pU_=some z7!:=by
  show((Eo E_ Ax dc! _).bind λu=>Al u k7!).bind (λu=>(Eo E_ dc! Ax _).bind λv=>Al u v)=_;rw[s1,s2];show(Al pV! k7!).bind (λu=>Al u _)=_;rw[b1];exact b2
 simp only[wl,ev];exact hK
def cO{f:e!}(h:cl!)(K:s_):wl f ρ M K=K d M:=by simp only[wl,h]
def c0x{h n:Int}{R:j_}(hL:aa!)(wi:By W)(hB:fN!<4000)(hl:ch!<3900)(hn:z7_)(ha:Sd a)(hk:dp!)(hb:Sd b)
  (hR:∀M' ρ' ae rows',Rl W.rows ah_ dp_ b rows'->Bt M' w ae (Gi W ah_ rows')->Tn M rl M' ae->R cP! M'):
  Xy hT! M R:=by
 obtain⟨wt,wn,qa,hA⟩:=id hL;obtain⟨e0,hw⟩:=hA.mw;obtain⟨e1,ht⟩:=hA.mt;obtain⟨e2,xk⟩:=hA.mn;have a8:∀{c d:xz!},rl c≠rl d->c≠d:=λh z=>h hc!;have XC:w≠wt:=a8 (by rw[hA.rw_,hA.rt];simp);have wwn:w≠wn:=a8 (by rw[hA.rw_,hA.rn];simp);have tn:wt≠wn:=a8 (by rw[hA.rt,hA.rn];simp);show Ah (An 4 (Sq (w2 bz! _ _) _)) _ hT! M R;unfold Ah An Sq wT;rw[qO (ρ:=hT!) hL rfl k5! hk];have er:f2 Aw eT_ gd! hT!=some (.bl z8!):=by
  show(f2 Ai x! v_ hT!).bind (λu=>Aw u gc_)=_;rw[z8_];exact nQ ha (iJ _)
 have key:∀g:Bool,(g=true↔(a∈W.its\/a=root))->
   Ah m4_ (Ah m6_ m8!)
    (b3_) M R:=by
  intro g hg;have gd:Dc ah_=some (some (.inr [.inl h,.inl n])):=rfl;unfold Ah Bw;have f3:∀g',Aa 3 [A!,Q_,some em!,bp_,some (.bl g'),none,none,none,none,none]=some ah_:=λ_=>rfl;have fl:Dl Ag b3_=some eu_:=rfl;rw[cO fl];rw[ixw (M:=M) (ρ:=b3_) (s:=hD_) rfl hw k3t];have g9:=hJ (y:=g9_) (v:=k8_) ht gd cs!;simp only[wl,f3,g9,Dx];rw[zW hn];generalize hM1:Bd M wt z9_=M1;have XD:M1 w=some (.dct hK! e0):=by rw[<-hM1,mup_ne XC];exact hw
  have XE:M1 wn=some (.dct hT_ e2):=by rw[<-hM1,mup_ne (HY tn)];exact xk
  have TC:M1 wt=some z9_:=by rw[<-hM1];exact mup_same
  have m1:∀c,c≠wt->M1 c=M c:=λc hc=>by rw[<-hM1];exact mup_ne hc
  refine Aa!;have qw:w≠q:=aW (by rw[XD];simp) hq;have qt:wt≠q:=aW (by rw[TC];simp) hq;have qn:wn≠q:=aW (by rw[XE];simp) hq;have m2w:Bd M1 q ei_ w=some (.dct hK! e0):=(mup_ne qw).trans XD;have m2n:Bd M1 q ei_ wn=some (.dct hT_ e2):=(mup_ne qn).trans XE;show w2 Br i_ i6_ b3_ (Bd M1 q ei_) _;rw[ixw (M:=Bd M1 q ei_) (ρ:=b3_) (s:=ph!) rfl m2w k3n];have hpm2:=hJ (y:=g9_) (v:=.fn q) m2n gd cs!;simp only[wl,f3,hpm2,Dx];rw[zW hn];generalize xl:Bd (Bd M1 q ei_) wn Aa_=M3;have Mq:∀c,M c≠none->c≠q:=λc hc=>by
   by_cases z:c=wt
   .rw[z];exact qt
   .exact aW (N:=M1) (by rw[m1 c z];exact hc) hq
  have m3:∀c,c≠wt->c≠q->c≠wn->M3 c=M c:=λc B Y h3=>by rw[<-xl,nO_,cC_,m1 c B]
  have XF:M3 wt=M1 wt:=by rw[<-xl,mup_ne tn,mup_ne qt]
  have XG:M3 wn=some Aa_:=by rw[<-xl];exact mup_same
  have XH:M3 q=some ei_:=by rw[<-xl,mup_ne (HY qn),mup_same]
  have m3w:M3 w=M w:=m3 w XC qw wwn
  let j8:D->Addr:=λi=>if i=.tup U! then q else qa i
  let ae:Addr->LR:=λc=>if c=q then .q ah_ else rl c
  have ao:∀c,M c≠none->ae c=rl c:=λc hc=>HR (Mq c hc);have lw:M w≠none:=by rw[hw];simp
  have lt:M wt≠none:=by rw[ht];simp
  have ln:M wn≠none:=by rw[xk];simp
  have TD:Bt M3 w ae (Gi W ah_ W.rows):=by
   refine⟨wt,wn,j8,⟨⟨e0,by rw[m3w];exact hw⟩,⟨Gp cr_ ah_ e1,?_⟩,⟨Gp hT_ ah_ e2,?_⟩,fA_,(ao w lw).trans hA.rw_,(ao wt lt).trans hA.rt,(ao wn ln).trans hA.rn,kv!⟩⟩
   .rw[XF,TC];congr 2;show _=(Ab_).map _;rw[IW];congr 1
    .apply KQ;intro i hi;show(i,D.lst kS_)=(i,D.lst ((if i=.tup U! then[]else W.txt i).map Be));rw[Ac_]
    .show[(D.tup U!,D.lst [])]=[(D.tup U!,D.lst ((if D.tup U!=.tup U! then[]else W.txt ah_).map Be))];rw[j!];rfl
   .rw[XG];congr 2;show _=(Ab_).map _;rw[IW];congr 1
    .apply KQ;intro i hi;show(i,D.fn fJ!)=(i,D.fn (if i=.tup U! then q else qa i));rw[Ac_]
    .show[(D.tup U!,D.fn q)]=[(D.tup U!,D.fn (if D.tup U!=.tup U! then q else qa ah_))];rw[j!]
   .have c8:i∈W.its++[D.tup U!]:=hi;obtain z|z:=HU.mp c8
    .obtain⟨g1,g2⟩:=hA.mq i z;have ni:i≠.tup U!:=λy=>hn (y▸z);have eq:j8 i=qa i:=HR ni;have lq:M fJ!≠none:=by rw[g1];simp
     rw[eq];refine⟨?_,(ao _ lq).trans g2⟩;rw[m3 _ (a8 (by rw[g2,hA.rt];simp)) (Mq _ lq) (a8 (by rw[g2,hA.rn];simp)),g1];show some (Pe.lst jH_)=some (Pe.lst (if i=.tup U! then _ else W.num i));rw[HR ni]
    .rw[IG]at z;subst z;have eq:j8 ah_=q:=IA rfl;rw[eq];refine⟨?_,j!⟩;rw[XH];show _=some (Pe.lst (if D.tup U!=.tup U! then[.int 0,.int 0,.int 0,.int 0]else _));rw[j!]
   .by_cases z:c=q
    .rw[z,XH];simp
    .have bu:rl c≠.oth:=by rw[<-(HR z:ae c=rl c)];exact hc
     have lc:=hA.live c bu;by_cases z1:c=wt
     .rw[z1,XF,TC];simp
     .by_cases z2:c=wn
      .rw[z2,XG];simp
      .rw[m3 c z1 z z2];exact lc
  have F1:Tn M rl M3 ae:=λc hc L=>⟨m3 c (a8 (by rw[L,hA.rt];simp)) (Mq c hc) (a8 (by rw[L,hA.rn];simp)),(ao c hc).trans L⟩;have ep:Mo (fT H_) eT_ ir! b3_=some dp_:=by
   have e4:fT H_ b3_=some g:=rfl;unfold Mo;rw[e4];show(if g=true then f2 Ai x! v_ b3_ else some binn)=_;rw[z8_];by_cases c:a∈W.its\/a=root
   .rw[IA (hg.mpr c),IA (c.elim .inl λz=>.inr dj_)]
   .rw[HR λz=>c (hg.mp z)];by_cases c2:Ft W a
    .rw[IA c2];obtain z|z|z:=c2
     .exact absurd dj_ c
     .exact absurd d8_ c
     .rw[z]
    .rw[HR c2]
  have eb:f2 Ai x! T! b3_=some b:=p2 rfl;have f0:Aa 0 b3_=some bt_:=rfl;have hc:∀(K:s_),Go [cq_,g9_,dp_,b] M3 K->Am 4 Go t4! b3_ M3 K:=λK hK=>by
   simp only[Am,Ab,Af,wl,f0,f3,ep,eb];exact⟨rfl,hK⟩
  refine gG (hc _ (a8h TD ed! (.inr (.inr (.inr ⟨[h,n],rfl⟩))) (by split;exact ha;exact iJ _) hb (by show ch!<_;omega) λM' rows' sn cy hF'=>?_))
  .obtain⟨z1,z2,_⟩:=kI wi q hq;exact⟨z1.sd,z2,z1.nn.1⟩
  .exact hR M' _ ae rows' sn cy (F1.trans hF')
 by_cases c:a∈W.its
 .rw[IT c];exact key true pW_
 .rw[IK c];simp only[wl,er];exact key z8! pW_
end
structure Sm(W:OW)(h1:Nat):Prop where
 rows:ch!<=h1
 its:fN!<=h1
 txt:∀x,(aK_).length<=h1
def Rl.len{rows rows':h_}(h:gS_):rows'.length<=rows.length+1:=by
 obtain⟨u,v,e1,e2,_⟩:=h;have B:(d5_).length<=rows.length:=by unfold wo;exact NH _ _
 rw[e1,IL]at B;rw[e2,IL,IH];omega
def Sm.stp{W:OW}{h1:Nat}(l:cQ!)(h:pX!):Sm W' bo_:=by
 have l1:=l.rows;have l2:=l.its;have l3:=l.txt;have same:Sm W bo_:=⟨t_,t_,λx=>by have:=l3 x;omega⟩;cases h with
 |put _ _ hg=>
  have:=hg.len;refine⟨by show _<=_;unfold Gi;simp only;omega,by unfold Gi;simp only[IL,KU];omega,jA_⟩;unfold Gi;simp only;split
  .simp
  .have:=l3 x;omega
 |mvY _ _ _ _ hg=>
  have:=hg.len;exact Ai!
 |mvN=>exact same
 |drY _ _ hg=>
  have:=hg.len;exact Ai!
 |drN=>exact same
 |@wrt a b s h m _ _ hs e=>
  split
  .refine Ai_;unfold setT;simp only;split
   .obtain⟨u,v,e1,e2,_⟩:=rB b hs! av!;have:=l3 a;rw[e1,IL]at this;rw[e2];have bx:ha!<=16:=hs;simp only[IL,IF,List.length_zipIdx];omega
   .have:=l3 x;omega
  .exact same
 |cut=>
  split
  .refine Ai_;unfold setT;simp only;split
   .unfold cutT;rw[IF];exact same.txt _
   .exact same.txt x
  .exact same
 |set=>
  split
  .exact⟨same.rows,same.its,same.txt⟩
  .exact same
section
variable{M:Mh}{R:D->Mh->Prop}{w:xz!}{rl:Addr->LR}{W:OW}{ρ:Ad}{pre:List D}
def gR{i:Nat}{f:e!}{q:WS}{R:j_}(h:cl!)(k:q ck_ M R):Ah (An i hU!) q ρ M R:=by unfold Ah An;rw[cO h];exact k
def c6l{g:WF}{f1 f2 f3 f4:e!}{K:s_}(B:fm!)(Y:hf!)(h3:oV!)(h4:f4 ρ=some d)(k:g [a,b,c,d] M K):Am 4 g x1! ρ M K:=by unfold Am Ab Af;rw[cO B,cO Y,cO h3,cO h4];exact pX_
def kT(h:pM!)(e:(k==k)=true):knd k ρ=some true:=by rw[b9s h,e]
def kF(h:pM!)(e:ku_=false):knd k' ρ=some false:=by rw[b9s h,e]
def GR:WS:=Aq zM! Xx zN_
def GS:WS:=Aq zL! m8_ (Aq zL_ m9_ GR)
def Zl:WS:=Aq zK_ Xy GS
def c2r:Xq=Ah m3_ (Ah m4! Zl):=c2s
def Th(w:xz!)(x0 d nm:D):Ad:=[A!,Q_,some d,fN_,none,none,none,none,none,none]
def dv0:Aa 0 Aj!=some bt_:=rfl
def oE:Aa 2 Aj!=some d:=rfl
def Zz(W:OW)(M:Mh)(w:xz!)(rl:dy_)(n d:D)(R:j_):Prop:=∀M' ae W' ρ',Tj W n d W'->Bt M' w ae W'->Tn M rl M' ae->R cP! M'
def c8x{h n:Int}{h1:Nat}{R:j_}(hL:aa!)(wi:By W)(a7:cQ!)(hB:ey!)(hn:z7_)(ha:Cz a)(hb:Mt b)
  (hR:Zz W M w rl ah_ em! R):Zl (Th w x0 em! ah_) M R:=by
 show"!1";have l1:=a7.rows;have l2:=a7.its;refine ifT (kT oE b9u) ?_;exact c0x hL wi a! a! hn ha.sd bi hb.sd λM' ρ' ae rows' hg cy hF=>hR M' ae _ ρ' (.put ha hb hg) cy hF
def c4t{h1:Nat}{R:j_}(hL:aa!)(wi:By W)(a7:cQ!)(hB:ey!)(ha:Cz a)(hb:Cz b)(hc:Mt c)
  (hR:Zz W M w rl nm hi_ R):Zl (Th w x0 hi_ nm) M R:=by
 show"!1";obtain⟨kb,kz⟩:=cN hb;have l1:=a7.rows;refine iU (kF oE jA) ?_;refine ifT (kT oE a3g) ?_;refine gG (c6l dv0 (p1 oE) (p2 oE) (p3 oE) ?_);refine a8g hL wi a! ha.sd hb.sd hc.sd bi kz λM' W' B Y cy hF=>?_;by_cases g:a∈W.its/\Ft W b/\¬Wn W.rows a b
 .obtain⟨rows',hg,e⟩:=B g;rw[e]at cy;exact hR M' rl _ _ (.mvY ha hb hc g hg) cy hF
 .rw[Y g]at cy;exact hR M' rl _ _ (.mvN ha hb hc g) cy hF
def c4u{h1:Nat}{R:j_}(hL:aa!)(wi:By W)(a7:cQ!)(hB:ey!)(ha:Cz a)
  (hR:Zz W M w rl nm hj! R):Zl (Th w x0 hj! nm) M R:=by
 show"!1";have l1:=a7.rows;refine iU (kF oE jB) ?_;refine iU (kF oE iH) ?_;refine ifT (kT oE a3h) ?_;refine gG (c6l (c:=binn) (d:=.non) dv0 (p1 oE) rfl rfl ?_);refine a8g (kx:=oV_) hL wi a! ha.sd (iJ _) ao_ bi rfl λM' W' B Y cy hF=>?_;by_cases g:a∈W.its/\Ft W binn/\¬Wn W.rows a binn
 .obtain⟨rows',hg,e⟩:=B g;rw[e]at cy;exact hR M' rl _ _ (.drY ha g hg) cy hF
 .rw[Y g]at cy;exact hR M' rl _ _ (.drN ha g) cy hF
def c8w{p v:Int}{h1:Nat}{R:j_}(hL:aa!)(wi:By W)(a7:cQ!)(hB:ey!)(ha:Cz a)(h0:0<=p)(h3:p<=3)
  (hR:Zz W M w rl nm ks_ R):Zl (Th w x0 ks_ nm) M R:=by
 show"!1";have st:=Tj.set (W:=W) (n:=nm) (v:=v) ha h0 h3;refine iU (kF oE oW) ?_;refine iU (kF oE mH) ?_;refine iU (kF oE mI) ?_;refine anT (kT oE b9t) pY! dA_ dA_
 .show"#=";exact c0w hL wi c' bi dv0 oE h0 h3 λM' cy hF=>hR M' rl _ _ st cy hF
 .show"#<";refine anF (kF oE kU) ?_;refine anF (kF oE oX) ?_;show"#7"
def c0v{h n:Int}{s:Str}{h1:Nat}{R:j_}(hL:aa!)(wi:By W)(a7:cQ!)(hB:ey!)(ha:Cz a)(hb:Kz b)(hs:jT_)
  (hR:Zz W M w rl ah_ fp_ R):Zl (Th w x0 fp_ ah_) M R:=by
 show"!1";have l2:=a7.its;have l3:=a7.txt a;have st:=Tj.wrt (W:=W) (n:=g9_) ha hb hs rfl;refine iU (kF oE kS) ?_;refine iU (kF oE jK) ?_;refine iU (kF oE jL) ?_;refine anF (kF oE a3c) ?_;refine anT (kT oE a6u) pY! dA_ dA_
 .show"#=";exact b0p hL wi a! a! c' bi hb.sd hs λM' ρ' cy hF=>hR M' rl _ _ st cy hF
 .show"#<";refine anF (kF oE a3d) ?_;show"#7"
def c8y{x y z m:Int}{h1:Nat}{R:j_}(hL:aa!)(wi:By W)(a7:cQ!)(hB:ey!)(ha:Cz a)(h0:0<=z)(B:1<=m)(Y:z+m<=16)
  (hR:Zz W M w rl nm em_ R):Zl (Th w x0 em_ nm) M R:=by
 show"!1";have l2:=a7.its;have l3:=a7.txt a;have st:=Tj.cut (W:=W) (n:=nm) (x:=x) (y:=y) ha h0 B Y;refine iU (kF oE oY) ?_;refine iU (kF oE mJ) ?_;refine iU (kF oE mK) ?_;refine anF (kF oE b0f) ?_;refine anF (kF oE kW) ?_;refine anT (kT oE b9v) pY! dA_ dA_
 .show"#=";exact c0y (g4:=nm) (r5:=nm) (r6:=nm) (r7:=nm) (r8:=nm) hL wi a! a! c' bi B a! λM' ρ' cy hF=>hR M' rl _ _ st cy hF
 .show"#<";show"#7"
def c7m(o:Op):Ai o.v bg!=some o.d:=by simp[Op.v,Ai,Cw,Ea]
def rX(o:Op):Ai o.v O!=some cq!:=by simp[Op.v,Ai,Cw,Ea]
def a1t(o:Op):Ai o.v ay_=some (.int o.n):=by simp[Op.v,Ai,Cw,Ea]
def c6i{f g:e!}(B:k6!)(Y:k6_):Az (Ac f (Ac g Ag)) ρ=some hK_:=by simp[Az,Ac,Ag,B,Y]
def c9y{o:Op}{h1:Nat}(hL:aa!)(hw:fv!)(hn:o.nm∉pre)(hd:DG o.d)(hu:Hk o.d=none)(a7:cQ!)(hB:ey!)
  (hR:∀M' ae W',Tj W o.nm o.d W'->Bt M' w ae W'->Tn M rl M' ae->R .non M'):Wf [cq_,o.v] M R:=by
 refine k!;rw[c2r];have e3:f2 Ai u_ ab_ Al!=some o.d:=c7m o;refine gR (ρ:=Al!) e3 ?_;have e0:Az t2! Al_=some o.nm:=c6i (rX o) (a1t o);refine gR (ρ:=Al_) e0 ?_;generalize hK:wz!=K;have g7:Zz W M w rl o.nm o.d K:=λM' ae W' ρ' B Y h3=>by rw[<-hK];exact hR M' ae W' B Y h3
 have vh:o.nm∉W.its:=λz=>hn (hw.its _ z);clear hR hK e3 e0 hn;obtain⟨h,n,tm,d⟩:=o;generalize Op.v ⟨h,n,tm,d⟩=v;change Zl (Th w v d ah_) M K;change Zz W M w rl ah_ d K at g7;change D.tup U!∉W.its at vh;change DG d at hd;change Hk d=none at hu;cases hd with
 |put ha hb=>exact c8x hL hw.inv a7 hB vh ha hb g7
 |move ha hb hc=>exact c4t hL hw.inv a7 hB ha hb hc g7
 |drop ha=>exact c4u hL hw.inv a7 hB ha g7
 |write ha hb _ _ hs=>exact c0v hL hw.inv a7 hB ha hb hs g7
 |cut ha hs B Y=>
  obtain⟨_,_,_,e,_,_,_,_,z0,_⟩:=hs;cases e;exact c8y hL hw.inv a7 hB ha z0 B Y g7
 |set ha B Y _=>exact c8w hL hw.inv a7 hB ha B Y g7
 |undo _=>rw[jP]at hu;exact absurd hu (by simp[show o3_=true from by decide+kernel])
 |redo _=>rw[jP]at hu;exact absurd hu (by simp[show o4!=true from by decide+kernel])
end
def Sm.mono{W:OW}{h1 B':Nat}(l:cQ!)(h:h1<=B'):Sm W B':=⟨JD l.rows h,JD l.its h,λx=>JD (l.txt x) h⟩
section
variable{M:Mh}{R:D->Mh->Prop}{w:xz!}{rl:Addr->LR}{W:OW}{ρ:Ad}{pre:List D}
def Bt.keep{M':Mh}(h:aa!)(k:yX!):Bt M' w rl W:=by
 show"!y";refine⟨wt,wn,qa,⟨?_,?_,?_,fA_,hA.rw_,hA.rt,hA.rn,bA_⟩⟩
 .rw[k w pO!];exact hA.mw
 .rw[k wt pF!];exact hA.mt
 .rw[k wn zu_];exact hA.mn
 .obtain⟨B,Y⟩:=hA.mq i hi;exact⟨(k _ pF_).trans B,Y⟩
 .rw[k b hb];show"#$"
def Bt.live(h:aa!)(hb:rl b≠.oth):M b≠none:=by obtain⟨wt,wn,qa,hA⟩:=h;exact hA.live b hb
def d1v{ep:Nat}{fo fa fb:e!}(hp:bG!)(h0:hV!)(B:la!)(Y:pZ!)(hk:b0!)(K:s_)(hK:K ((hO!).getD z) M):Iw cH_ fC! er_ ρ M K:=by
 have c:Ef M G!=some kW!:=by simp[Ef,hp]
 simp only[Iw,wl,h0,B,Y,c,Dx,hk];exact hK
def oG{g:WF}{f1 f2:e!}{K:s_}(B:fm!)(Y:hf!)(k:g ak_ M K):Am 2 g wy_ ρ M K:=by unfold Am Ab Af;rw[cO B,cO Y];exact pX_
def a8b{g:WF}{f1:e!}{K:s_}(B:fm!)(k:g [a] M K):Am 1 g (Ab j0_ Af) ρ M K:=by unfold Am Ab Af;rw[cO B];exact pX_
def GG:WT:=Fo uh_ uk!
def GH:WS:=Aq GG ul! Bq
def d1o{ft:WT}{q1 q2:WS}{b:Bool}{R:j_}(h:An!)(k1:zP!)(k2:zP_):Aq ft q1 q2 ρ M R:=by
 unfold Aq;refine h _ ?_;cases b with
 |true=>rw[j!];exact k1 rfl
 |false=>rw[F!];exact k2 rfl
def c1y{ft fu:WT}{b:Bool}{c:Bool}(h:An!)(Y:b=true->∀K:Bool->Mh->Prop,K c M->fu ρ M K)(K:fG!)(hK:K (b&&c) M):Fo ft fu ρ M K:=by
 unfold Fo;refine h _ ?_;cases b with
 |true=>rw[j!];exact Y rfl K (by simpa using hK)
 |false=>rw[F!];simpa using hK
def c3v{e0:Nat}{x:Op}(k8:An_)(hd:DG x.d)(hp:M p=some (.dct kb e0))(K:fG!)
  (hK:K (decide Ao!) M):GG pZ_ M K:=by
 obtain⟨k,r,e,hn,hs⟩:=d1y hd;have i0:f2 Ai mt! B_ pZ_=some U_:=c0b e;have hu:(! px!)=decide p0!:=by
  cases hu:Hk x.d with
  |none=>
   obtain⟨B,Y⟩:=hn hu;rw[zb_,zc!,B,Y];rfl
  |some u=>
   obtain⟨g1,g2,hk,ir⟩:=hs u hu;rw[b1d hk];rfl
 obtain⟨kn,gd⟩:=a9v x;have hz:(∃b:Bool,(kget kb x.nm).getD X_=.bl b/\(b=true↔kget wd x.nm=some b8_)):=by
  obtain⟨B,Y⟩|⟨k',B,Y⟩:=k8 x.nm
  .exact⟨false,by rw[Y];rfl,by rw[B];simp⟩
  .refine⟨k'=="undo",by rw[Y];rfl,?_⟩;rw[B];show"!H"
   .intro z;rw[eq_of_beq z]
   .intro z;rw[D.str.inj (JN z)];exact LV _
 obtain⟨b,hb1,XI⟩:=hz;have e2:Az ui! pZ_=some x.nm:=c6i (rX x) (a1t x);refine c1y (b:=decide p0!) (c:=!b) (λK' ul=>?_) (λ_ K' ul=>?_) K ?_
 .unfold wT w2;rw[cO i0,cO (f:=fC tI!) rfl,a7d];rw[hu];exact ul
 .unfold Lj wT;refine d1v hp rfl e2 rfl gd _ ?_;rw[hb1];exact ul
 .have:(decide p0!&&!b)=decide Ao!:=by
   by_cases c1:Hk x.d=none
   .by_cases c2:kget wd x.nm=some b8_
    .rw[XI.mpr c2];simp[c2]
    .have:b=false:=by
      cases b with
      |true=>exact absurd (XI.mp rfl) c2
      |false=>rfl
     rw[this,IT c1,IT (⟨c1,c2⟩:_/\_)];rfl
   .rw[IK c1,IK λz:_/\_=>c1 z.1];rfl
  rw[this];exact hK
def a2m{e0:Nat}(k8:An_):
  ∀(os:h!) (x1:D) (y:ah!) (M:Mh) (rl:dy_) (W:OW) (pre:b!) (h1:Nat) (R:j_),(∀x∈os,DG x.d)->yQ_->(pm!).Nodup->Bt M w rl W->Vc W pre->Sm W h1->h1+20*V!<3800->M p=some (.dct kb e0)->rl p=.oth->
   (∀M' ae W' y',Ww W pn! W'->Bt M' w ae W'->yR!->Sm W' (h1+20*V!)->Tn M rl M' ae->R (.nx [Q!,A!,aj!,y']) M')->
   Hg J_ ab! GH Z_ [Q!,A!,aj!,y] M R
 |[],x1,y,M,rl,W,pre,h1,R,_,_,_,hL,hw,a7,_,_,_,hR=>⟨trivial,hR M rl W y .nil hL ⟨pre,hw⟩ (a7.mono a!) .refl⟩
 |x::os,x1,y,M,rl,W,pre,h1,R,hd,hp,nd,hL,hw,a7,hB,xm,jr,hR=>by
  refine aL!;simp only[IH]at hB hR;rw[HZ,IN]at nd;have jo:=hd x HV;refine d1o (c3v k8 jo xm) dA_ dA_
  .have c':=KD c;have ee:Rn wd hG!=x::Rn wd os:=by unfold Rn;rw[KJ Aq!]
   refine gG (oG rfl rfl (c9y hL hw kJ! jo c'.1 a7 a! λM1 dh W1 hs TD hF=>?_));have hq:=hF p (by rw[xm];simp) jr;refine a2m k8 os x1 po! M1 dh W1 (pre++[x.nm]) bo_ R po_ yV! nd.2 TD (b6m hs hw kJ!) (a7.stp hs) a! (hq.1.trans xm) hq.2 (λM' ae W' y' g1 g2 g3 g4 g5=>hR M' ae W' y' (by rw[ee];exact .cons hs g1) g2 g3 Aq_ (hF.trans g5));obtain z|z:=HU.mp z
   .exact hp y d7! z
   .rw[IG]at z;exact nd.1 yV_
  .have c':=PF c;have ee:Rn wd hG!=Rn wd os:=by unfold Rn;rw[KB Aq!]
   exact a2m k8 os x1 po! M rl W pre bo_ R po_ pp! nd.2 hL hw (a7.mono a!) a! xm jr (λM' ae W' y' g1 g2 g3 g4 g5=>hR M' ae W' y' (by rw[ee];exact g1) g2 g3 Aq_ g5)
def d2p{N:Mh}(B:N w=none)(Y:Bd N w A_ wt=none)(h3:Bd p1! wt A_ wn=none):
  ∃rl,Bt (Bd Ar_ w As!) w rl W0/\(∀b,N b≠none->Bd Ar_ w As! b=N b/\rl b=.oth)/\Bd Ar! wn A_ w=some A_:=by
 have e1:w≠wt:=aW (N:=Bd N w A_) pf_ Y;have e2:w≠wn:=aW (N:=p2!) (by rw[mup_ne e1,mup_same];simp) h3;have e3:wt≠wn:=aW (N:=p2!) pf_ h3;have ao:∀b,N b≠none->b≠w/\b≠wt/\b≠wn:=λb hb=>by
  have a1:b≠w:=aW hb B;have a2:b≠wt:=aW (N:=Bd N w A_) (by rw[hW!];exact hb) Y;exact⟨a1,a2,aW (N:=p2!) (by rw[mup_ne a2,hW!];exact hb) h3⟩
 refine⟨λc=>if c=w then .w else if c=wt then .wt else if c=wn then .wn else .oth,⟨wt,wn,λ_=>w,⟨⟨3,mup_same⟩,p2_,p2_,as!,j!,?_,?_,bA_⟩⟩,bA_,?_⟩
 .rw[mup_ne (HY e1),mup_ne e3,mup_same];rfl
 .rw[mup_ne (HY e2),mup_same];rfl
 .show(if wt=w then _ else _)=_;rw[HR (HY e1),j!]
 .show(if wn=w then _ else _)=_;rw[HR (HY e2),HR (HY e3),j!]
 .by_cases a1:b=w
  .rw[a1,mup_same];simp
  .rw[hW!];by_cases a3:b=wn
   .rw[a3,mup_same];simp
   .rw[mup_ne a3];by_cases a2:b=wt
    .rw[a2,mup_same];simp
    .exact absurd (by simp[a1,a2,a3]) hb
 .obtain⟨a1,a2,a3⟩:=ao b hb;exact⟨by rw[hW!,mup_ne a3,mup_ne a2,hW!],by simp[a1,a2,a3]⟩
 .rw[mup_ne e2,mup_ne e1,mup_same]
def c9x:Sm W0 0:=⟨IQ _,IQ _,λ_=>IQ _⟩
def d1n:((hJ_).map b_).Nodup:=by
 refine IN.mpr ⟨?_,IN.mpr ⟨?_,At_⟩⟩
 .intro z;obtain z|z:=HQ.mp z
  .exact c5v z
  .exact c5w p3_
 .intro z;exact c5s p3_
def c3z:∀q∈k3 a b c,(Dc q.1).isSome=true:=λq hq=>by
 obtain rfl|hq:=HQ.mp hq
 .rfl
 .obtain rfl|hq:=HQ.mp hq
  .rfl
  .rw[IG.mp hq];rfl
def b4j:Wb=Ah ug!
 (Ah uh!
 (Ah (Dd mZ_ J_ GH)
 cx_)):=rfl
def c4v{f:WE->WS}{ρ:Ad}{K:s_}(hK:∀w M' rl,M w=none->Bt M' w rl W0->pd!->K bt_ M'):
  Ph uf_ ρ M K:=by
 intro w hw;refine pc (x:=.str "rows") rfl ?_;rw[cO (f:=Dl Ag) (d:=k8_) rfl];refine pc (x:=.str "texts") rfl ?_;intro wt ht;refine pc (x:=Au!) rfl ?_;intro wn hn;obtain⟨rl,B,Y,h3⟩:=d2p hw ht hn;exact⟨h3,by show 3<=1000;decide,c3z,d1n,hK w _ rl hw B Y⟩
def c1u{ops:h!}(nd:eq_)(nn:yZ!)(hl:dv!)(hd:hz!)
  (hR:∀w M' rl W',M w=none->Ww W0 (Rn hz_ a2!) W'->Bt M' w rl W'->yZ_->Sm W' 1500->pd!->R bt_ M'):Oh co! M R:=by
 refine k!;rw[b4j];have hp:(a2!).Perm ops:=cL ops;unfold Ah An;refine c4v (f:=λ_=>Bq) λw M1 rl hw hL fr=>?_;refine a8b (a:=hw!) rfl (b0d nd hl hd λp M2 ep dz f9 ik=>?_);have rp:rl p=.oth:=Classical.byContradiction λz=>hL.live z dz;have u6:Bt M2 w rl W0:=hL.keep λc hc=>ik c λz=>hc (by rw[z];exact rp);unfold Dd Cs;refine a8b (a:=hw!) rfl (vY nd hl ?_);refine a2m (wd:=pc_) (vA a2! [] [] λx=>.inl bN_) a2! _ none M2 rl W0 [] 0 _ (λx O=>hd x y0_) y1! y2! u6 c6o c9x kK_ f9 rp λM' ae W' y' g1 g2 g3 g4 g5=>?_;refine hR w M' ae W' hw g1 g2 g3 (g4.mono kK_) λb hb=>?_;obtain⟨e1,e2⟩:=fr b hb;have e3:M2 b=M1 b:=ik b λz=>by rw[<-e1,z,dz]at hb;exact hb rfl
 obtain⟨e4,e5⟩:=g5 b y2_ e2;exact⟨e4.trans (e3.trans e1),e5⟩
def xX(h:aa!)(O:a0!)(hk:aT!)(hl:Au_)(hj:o0!)(hR:R v M):Hj [cq_,x] M R:=by
 refine k!;show Ay (Qe _ (Ca 1 [] un! _ _ _)) kT! M _;unfold Ay Qe Ca Cs;rw[b6j (ρ:=kT!) h rfl (fx:=Aa 1) rfl hk O];refine p4!;refine cR (λd=>match d with|.tup [_,_,.bl b]=>b|_=>false) (λd=>match d with|.tup [_,c,_]=>c|_=>.non) trivial _ _ bI! ?_
 .show"!=";refine⟨[hR_],rfl,kx!,ep_⟩
  .have e1:fT dJ_ [hR_]=some q.2.2:=by
    have:f2 Ai l! T! [hR_]=some pP_:=d0i;show"!A"
   unfold Da;rw[e1];exact hK
  .have e1:f2 Ai l! v_ [hR_]=some q.2.1:=d0j;rw[cO e1];exact hK
 .have e2:((((aK_).map Be).filter λd=>match d with|.tup [_,_,.bl b]=>b|_=>false).map λd=>match d with|.tup [_,c,_]=>c|_=>.non)=(dt_).map ky!:=by
   unfold Ve;rw[NJ,JR];rfl
  rw[e2];show Dx (Nf (.str ds_) _) _;rw[hj];exact hR
def a7y:∀(l:af_),(∀q∈l,∃c:Nat,q.2.1=.str ar_)->∃cs:List Nat,l.map ky!=cs.map Ox/\cG!=al_
 |[],_=>w2!
 |q::l,h=>by
  obtain⟨cs,e1,e2⟩:=a7y l λx O=>h x bH_
  obtain⟨c,e⟩:=h q HV;exact⟨c::cs,by rw[HZ,HZ,e1,e];rfl,by rw[IH,IH,e2]⟩
def c0a(hw:fv!)(O:a0!)(hl:Au_):∃s,Nf iV_ yc_=some aE_:=by
 obtain⟨cs,e1,e2⟩:=a7y dt_ λq hq=>hw.chr x O q (o1!).1
 have ls:(dt_).length<=(aK_).length:=NH _ _;rw[e1];refine⟨Txt.join ds_ hm!,?_⟩;show((Qf kh!).bind λys=>if(kk_).sum+ac_*(ds_).length<=big then some (D.str (Txt.join ds_ ys))else none)=_;rw[rC];show kQ!=_;rw[IA (by rw[a0z,a0h];unfold big;omega)]
end
end K11
namespace K11
open PySem L2 DL
variable{t:Ar}
abbrev Yl:Nat:=1000000000000000000000000000000000000000000000000000000000000
def a3v{i:Int}(h:gr_<Yl):Fu [b7!]=some C!:=by
 have:iP_<1000000000000000000000000000000000000000000000000000000000000:=by unfold Yl at h;split<;>omega
 push_cast[Fu,Qu,this]
def a3x{i k:Int}(h:gr_<Yl)(h0:0<=i)(B:i<k):Hf [b7!,hh_]=some C!:=by push_cast[Hf,Qw,a3v h,h0,B]
def a3w{i:Int}(h:gr_<Yl)(B:1<=i):Dz [b7!]=some C!:=by push_cast[Dz,Nb,a3v h,B]
def sN(h:NameG x):Ec [x]=some C!:=by
 obtain⟨a,b,rfl,B,Y,h3,h4⟩:=h
 push_cast[Ec,Ot,a3x (i:=a) (k:=16) fP! B Y,a3w (i:=b) fP! h3]
def tS(h:Yc x):Eb [x]=some C!:=by
 obtain⟨a,b,c,rfl,B,Y,h3,h4,h5,h6⟩:=h
 push_cast[Eb,Lq,sN ⟨a,b,rfl,B,Y,h3,h4⟩,a3x (i:=c) (k:=16) fP! h5 a!]
def pB(h:Cz x):He [x]=some C!:=by
 have n:∀s,Ec [dn!]=some X_:=λs=>by push_cast[Ec,Ot]
 obtain rfl|rfl|h:=h
 .push_cast[He,Mj,n,gV]
 .push_cast[He,Mj,n,gV]
 .push_cast[He,Mj,sN h]
def a0i(h:Mt x):Ez [x]=some C!:=by
 obtain rfl|h:=h
 .push_cast[Ez,Km]
 .obtain⟨a,b,rfl,_⟩:=id h
  push_cast[Ez,Km,sN h]
def c0s(h:Kz x):Fz [x]=some C!:=by
 obtain rfl|h:=h
 .push_cast[Fz,Ls]
 .obtain⟨a,b,c,rfl,_⟩:=id h
  push_cast[Fz,Ls,tS h]
def b3c{i:Int}(h0:0<=i)(B:i<=3):Dy [b7!]=some C!:=by push_cast[Dy,Qv,a3x (i:=i) (k:=4) fP! h0 a!]
def c8s{s:Str}(h:Ul s=true)(B:1<=aE!)(Y:jT_):Kg [dn!]=some C!:=by
 unfold Ul at h;rw[IZ,JE]at h;have hl:aE!<=big:=by unfold big;omega
 have hc:=xR dq_ rfl s.cps.toList h.2;have fw:(List.map fx_ s.cps.toList).all id=true:=by simp
 have z1:1<=ke!:=by omega
 have z2:ke!<=16:=by omega
 have hz:ha!<=big:=by simpa[Str.length]using hl
 have TF:Fa 1 [] (AR l!) J! a6! ir_ [some aE_]=some (.lst Aw_):=by
  show(if(s.cps.toList.map λc=>D.str ar_).length<=big then Option.map D.lst (Ej J! a6! ir_ dq_ (s.cps.toList.map λc=>.str ar_))else none)=_;rw[IF,IA hz,hc];rfl
 have hall2:Rk [.lst Aw_]=some C!:=by
  simp only[Rk,xV,OH,fw]
 push_cast[Kg,Sh,TF,hl,z1,z2,hall2]
def c8q(nd:t.nd):Li t t.A0=some He/\Li t t.A5=some Ez/\Li t t.A6=some Fz/\Li t t.A7=some Kg/\Li t t.A8=some Eb/\
  Li t t.A9=some Dz/\Li t t.B0=some Dy/\Li t t.B1=some Fu/\Li t t.B2=some Ec:=by
 unfold Ar.nd at nd;simp only[IN,HQ,JI,LB,OX]at nd;unfold Li;refine⟨?_,?_,?_,?_,?_,?_,?_,?_,?_⟩<;>grind
def tX(ρ:Ad)(oj:ρ=p4_):∀(cs:p5!),(∀c∈cs,∃g,Li t c.1=some g/\g [c.2]=some C!)->
  Ej it! a6! it_ ρ lb!=some j4!/\(lb!).length=cG!
 |[],_=>bN_
 |c::cs,h=>by
  have ih:=tX ρ oj cs λx O=>h x bH_;obtain⟨g,B,Y⟩:=h c HV;subst oj;refine⟨?_,by simp only[HZ,Lb,IH,ih.2]⟩;simp only[HZ,Lb,Ej,ih.1];simp[Rj,Bm,Oy,Ac,Aa,Ag,B,Y]
def a0q:∀(cs:p5!),Nh wL!=some wM!
 |[]=>rfl
 |c::cs=>by simp only[HZ,Nh,a0q cs,OH]
def jD(cs:p5!)(h:∀c∈cs,∃g,Li t c.1=some g/\g [c.2]=some C!)(hl:cG!<=1000):
  Hu t [.tup p6!,.tup p5_]=some C!:=by
 have hc:=tX p4_ rfl cs h;have hz:cG!<=big:=by unfold big;omega
 have TF:Fa 2 [] (AQ u_ l!) it! a6! it_ [some (.tup p6!),some (.tup p5_)]=some (.lst j4!):=by
  show(if(lb!).length<=big then Option.map D.lst (Ej it! a6! it_ p4_ lb!)else none)=_;rw[hc.2,IA hz,hc.1];rfl
 have fw:Rk [.lst j4!]=some C!:=by
  simp only[Rk,a0q,OH];simp
 push_cast[Hu,Po,TF,fw]
def a7u(x:D)(r:b!):Bl (.tup (x::r)) ft! none=some (.tup r):=by
 have B:HT.sIx (aN_+1) 0 ft!=1:=by
  simp[HT.sIx]
 have Y:HT.sIx (aN_+1) (aN_+1) none=aN_+1:=by simp[HT.sIx]
 simp[Bl,Di,B,Y]
def iW{k:Str}(hk:(ge_).lookup k=some (.tup fs))(hp:Hu t [.tup r,.tup fs]=some C!)(hc:k≠"cut"):Ir t [.tup dr!]=some C!:=by
 have h0:¬(hi!+1=0):=by omega
 have he:Aw (.int (hi!+1)) O!=some X_:=by simp[Aw,Bh,Ij,Dw,h0]
 push_cast[Ir,Ou,he,Zb,hk,Wg,hp,a7u,hc]
def c8v(nd:t.nd)(h:DG d):Ir t [d]=some C!:=by
 obtain⟨i1,i2,i3,i4,i5,i6,i7,i8,i9⟩:=c8q nd;have two:∀{a b:Addr×D} {P:p6_},P a->P b->∀c∈ak_,P c:=λB Y c hc=>by
  simp only[HQ,JI,LB]at hc;obtain rfl|rfl:=hc
  .exact B
  .exact Y
 have xo:∀{a b c:Addr×D} {P:p6_},P a->P b->P c->∀x∈eE!,P x:=λB Y h3 c hc=>by
  simp only[HQ,JI,LB]at hc;obtain rfl|rfl|rfl:=hc
  .exact B
  .exact Y
  .exact h3
 have one:∀{a:Addr×D} {P:p6_},P a->∀x∈[a],P x:=λB c hc=>by rw[IG.mp hc];exact B
 cases h with
 |@put a b B Y=>exact iW rfl (jD [fQ!,(t.A5,b)] (two fQ_ ⟨_,i2,a0i Y⟩) d_) u!
 |@move a b c B Y h3=>exact iW rfl (jD [fQ!,(t.A0,b),(t.A5,c)] (xo fQ_ ⟨_,i1,pB Y⟩ ⟨_,i2,a0i h3⟩) d_) u!
 |@drop a B=>exact iW rfl (jD [fQ!] (one fQ_) d_) u!
 |@write a b s B Y h3 h4 h5=>exact iW rfl (jD [fQ!,(t.A6,b),(t.A7,.str s)] (xo fQ_ ⟨_,i3,c0s Y⟩ ⟨_,i4,c8s h3 h4 h5⟩) d_) u!
 |@cut a x y z m B Y h3 h4=>
  have hz:0<=z:=by obtain⟨_,_,_,e,_,_,_,_,q,_⟩:=Y;cases e;exact q
  have hp:=jD (t:=t) [fQ!,(t.A8,.tup jL_),(t.A9,.int m)] (xo fQ_ ⟨_,i5,tS Y⟩ ⟨_,i6,a3w fP! h3⟩) d_;have he:Aw (.int 4) O!=some X_:=by simp[Aw,Bh,Ij,Dw]
  have hk:(ge_).lookup ("cut":Str)=some (.tup ry_):=rfl;simp only[HZ,NE]at hp
  push_cast[Ir,Ou,he,Zb,hk,Wg,hp,a7u,h4]
 |@set a p n B Y h3 h4=>exact iW rfl (jD [fQ!,(t.B0,.int p),(t.B1,.int n)] (xo fQ_ ⟨_,i7,b3c Y h3⟩ ⟨_,i8,a3v h4⟩) d_) u!
 |@undo a B=>exact iW rfl Ay! u!
 |@redo a B=>exact iW rfl Ay! u!
def d2w{h n m:Int}(nd:t.nd)(B:0<=h)(Y:h<16)(h3:1<=n)(h4:n<=2000)(h5:1<=m)(h6:m<=1000)(hd:DG d):Cc t [.tup [aR!,aP_,ef_,d]]=some C!:=by push_cast[Cc,Lr,sN ⟨h,n,rfl,B,Y,h3,h4⟩,a3w (i:=m) fP! h5,c8v nd hd]
def nL(h:NameG x):Bh x=true/\Ij x<=1:=by obtain⟨a,b,rfl,_⟩:=h;simp[Bh,Bp,Ij,Dj]
def eU(h:Cz x):Bh x=true/\Ij x<=1:=by
 obtain rfl|rfl|h:=h
 .simp[Bh,Ij]
 .simp[Bh,Ij]
 .exact nL h
def a1c(h:Mt x):Bh x=true/\Ij x<=1:=by
 obtain rfl|h:=h
 .simp[Bh,Ij]
 .exact nL h
def b1j(h:Kz x):Bh x=true/\Ij x<=1:=by obtain rfl|⟨a,b,c,rfl,_⟩:=h<;>simp[Bh,Bp,Ij,Dj]
def d1w(h:DG d):Bh d=true/\Ij d<=2:=by
 cases h with
 |put B Y=>simp only[Bh,Bp,Ij,Dj,eU B,a1c Y,MU,QK];have:=(fS!).2;have:=(a1c Y).2;omega
 |move B Y h3=>simp only[Bh,Bp,Ij,Dj,eU B,eU Y,a1c h3,MU,QK];have:=(fS!).2;have:=(eU Y).2;have:=(a1c h3).2;omega
 |drop B=>simp only[Bh,Bp,Ij,Dj,eU B,MU,QK];have:=(fS!).2;omega
 |write B Y=>simp only[Bh,Bp,Ij,Dj,eU B,b1j Y,MU,QK];have:=(fS!).2;have:=(b1j Y).2;omega
 |cut B=>simp only[Bh,Bp,Ij,Dj,eU B,MU,QK];have:=(fS!).2;omega
 |set B=>simp only[Bh,Bp,Ij,Dj,eU B,MU,QK];have:=(fS!).2;omega
 |undo B=>simp only[Bh,Bp,Ij,Dj,nL B,MU,QK];have:=(nL B).2;omega
 |redo B=>simp only[Bh,Bp,Ij,Dj,nL B,MU,QK];have:=(nL B).2;omega
variable{t:Ar}
nonrec def hs(os:h!)(h:Int):List Op:=os.filter λo=>decide (o.h=h)
structure AY(l:h!):Prop where
 num:∀(i:Nat) (o:Op),l[i]?=some o->o.n=aG_+1
 tim:l.Pairwise λa b=>a.tm<b.tm
structure Zg(o:Op):Prop where
 hh:o.h=0\/o.h=5\/o.h=15\/o.h=11\/o.h=12\/o.h=3
 t1:1<=o.tm
 t2:o.tm<=1000
 n1:1<=o.n
 n2:o.n<=2000
 dg:DG o.d
structure Fx(os:h!):Prop where
 ch:∀h,AY fS_
 op:∀o∈os,Zg o
def AY.nil:AY []:=⟨λi o e=>by simp at e,ju_⟩
def AY.snoc{l:h!}{o:Op}(h:AY l)(e:o.n=(al_:Nat)+1)(ht:∀x∈l,x.tm<o.tm):AY (l++[o]):=by
 refine⟨λi x O=>?_,?_⟩
 .obtain c|c:=LZ i al_
  .rw[KO c]at O;exact h.num i x O
  .rw[KA c]at O;obtain z|z:=Nat.eq_zero_or_pos (i - al_)
   .rw[z]at O;simp at O;subst O;rw[e];omega
   .rw[JZ bN!]at O;cases O
 .rw[List.pairwise_append];exact⟨h.tim,List.pairwise_singleton _ _,λa ha b hb=>by rw[lp_];exact ht a ha⟩
def cV{a b:h!}{h:Int}:hs (a++b) h=hs a h++hs b h:=by unfold hs;rw[RD]
def fG{o:Op}{h:Int}:hs [o] h=if o.h=h then[o]else[]:=by
 unfold hs;by_cases c:o.h=h
 .rw[IA c,KJ Az!];rfl
 .rw[HR c,KB Az!];rfl
def kO{os:h!}{h:Int}{o:Op}:o∈hs os h↔o∈os/\o.h=h:=by unfold hs;rw[KM];simp
def Fx.nil:Fx []:=⟨λh=>AY.nil,λo ho=>by cases ho⟩
def Fx.snoc{os:h!}{o:Op}(h:Fx os)(hf:Zg o)(e:o.n=((hs os o.h).length:Nat)+1)(ht:∀x∈os,x.h=o.h->x.tm<o.tm):Fx (os++[o]):=by
 refine⟨λk=>?_,aZ_⟩
 .rw[cV,fG];by_cases c:o.h=k
  .rw[IA c];subst c;exact(h.ch _).snoc e λx O=>ht x (kO.mp O).1 (kO.mp O).2
  .rw[HR c,JC];exact h.ch k
 .obtain z|z:=HU.mp O
  .exact h.op x z
  .rw[bu_];exact hf
structure HW(i:Nat)(os:h!)(c0 c1 c2 t0 t1 t2:Int):Prop where
 hist:Fx os
 len:V!=i
 q0:c0=AA!
 q1:c1=AA_
 q2:c2=AB!
 u0:∀x∈os,x.h=0->x.tm<=t0
 u1:∀x∈os,x.h=5->x.tm<=t1
 u2:∀x∈os,x.h=15->x.tm<=t2
 b0:0<=t0/\t0<=3*i
 b1:0<=t1/\t1<=3*i
 b2:0<=t2/\t2<=3*i
 wh:∀x∈os,x.h=0\/x.h=5\/x.h=15
def HW.nil:HW 0 [] 0 0 0 0 0 0:=⟨.nil,rfl,rfl,rfl,rfl,lc!,lc!,lc!,G_,G_,G_,lc!⟩
def Zg.hb{o:Op}(h:Zg o):0<=o.h/\o.h<16:=by have:=h.hh;omega
def Zg.ok{o:Op}(h:Zg o):Vo o.v:=⟨o.h,o.n,o.tm,o.d,rfl,h.hb.1,h.hb.2,h.n1,h.n2,h.dg⟩
section
variable{i:Nat}{os:List Op}{c0 c1 c2 t0 t1 t2:Int}{m:Int}{dd:D}
def xK(os:h!)(h:Int):(fS_).length<=V!:=NH _ _
def HW.opok(hw:hY!):∀o∈os.map Op.v,Vo o:=λo ho=>by
 obtain⟨x,O,rfl⟩:=IP.mp ho;exact(hw.hist.op x O).ok
def c7z(m:Int):0<=m / 3%3/\m / 3%3<3:=⟨KP _ c_,JX _ c_⟩
def wh1{o:Op}(h:∀x∈os,x.h=0\/x.h=5\/x.h=15)(ho:o.h=0\/o.h=5\/o.h=15):∀x∈os++[o],x.h=0\/x.h=5\/x.h=15:=λx O=>(p8!).elim (h x) λz=>by rw[bu_];exact ho
def HW.tb(hw:hY!):∀x∈os,AC!/\x.tm<=3*i:=λx O=>⟨hw.wh x O,by
 have b0:=hw.b0;have b1:=hw.b1;have b2:=hw.b2;obtain z|z|z:=hw.wh x O
 .have:=hw.u0 x O z;omega
 .have:=hw.u1 x O z;omega
 .have:=hw.u2 x O z;omega⟩
def HW.step0(hw:hY!)(h0:0<=m)(hi:i<100)(hd:DG dd):HW aX_ (os++[⟨0,c0+1,t0+1+m / 3%3,dd⟩]) (c0+1) (c1) (c2) (t0+1+m / 3%3) t1 t2:=by
 obtain⟨m1,m2⟩:=c7z m;have hc:=hw.q0;have hb:=hw.b0;have hl:=xK os 0;rw[hw.len]at hl;refine⟨hw.hist.snoc ⟨cY!,by show 1<=t0+1+m / 3%3;omega,by show t0+1+m / 3%3<=1000;omega,by show 1<=c0+1;omega,by show c0+1<=2000;omega,hd⟩ (by show c0+1=AA!+1;omega) (λx O hh=>by have:=hw.u0 x O hh;show x.tm<t0+1+m / 3%3;omega),p8_,by rw[cV,fG,j!,IL];have:=hw.q0;simp;omega,by rw[cV,fG,HR AC_,JC];exact hw.q1,by rw[cV,fG,HR AD!,JC];exact hw.q2,cQ_,cQ_,cQ_,p9!,p9_,qa!,wh1 hw.wh ao_⟩
 .obtain z|z:=HU.mp O
  .have:=hw.u0 x z hh;omega
  .rw[bu_];exact MF _
 .obtain z|z:=HU.mp O
  .exact hw.u1 x z hh
  .rw[bu_]at hh;exact absurd hh AC_
 .obtain z|z:=HU.mp O
  .exact hw.u2 x z hh
  .rw[bu_]at hh;exact absurd hh AD!
def HW.step1(hw:hY!)(h0:0<=m)(hi:i<100)(hd:DG dd):HW aX_ (os++[⟨5,c1+1,t1+1+m / 3%3,dd⟩]) (c0) (c1+1) (c2) t0 (t1+1+m / 3%3) t2:=by
 obtain⟨m1,m2⟩:=c7z m;have hc:=hw.q1;have hb:=hw.b1;have hl:=xK os 5;rw[hw.len]at hl;refine⟨hw.hist.snoc ⟨.inr ao_,by show 1<=t1+1+m / 3%3;omega,by show t1+1+m / 3%3<=1000;omega,by show 1<=c1+1;omega,by show c1+1<=2000;omega,hd⟩ (by show c1+1=AA_+1;omega) (λx O hh=>by have:=hw.u1 x O hh;show x.tm<t1+1+m / 3%3;omega),p8_,by rw[cV,fG,HR AE_,JC];exact hw.q0,by rw[cV,fG,j!,IL];have:=hw.q1;simp;omega,by rw[cV,fG,HR AF!,JC];exact hw.q2,cQ_,cQ_,cQ_,p9!,p9_,qa!,wh1 hw.wh lc_⟩
 .obtain z|z:=HU.mp O
  .exact hw.u0 x z hh
  .rw[bu_]at hh;exact absurd hh AE_
 .obtain z|z:=HU.mp O
  .have:=hw.u1 x z hh;omega
  .rw[bu_];exact MF _
 .obtain z|z:=HU.mp O
  .exact hw.u2 x z hh
  .rw[bu_]at hh;exact absurd hh AF!
def HW.step2(hw:hY!)(h0:0<=m)(hi:i<100)(hd:DG dd):HW aX_ (os++[⟨15,c2+1,t2+1+m / 3%3,dd⟩]) (c0) (c1) (c2+1) t0 t1 (t2+1+m / 3%3):=by
 obtain⟨m1,m2⟩:=c7z m;have hc:=hw.q2;have hb:=hw.b2;have hl:=xK os 15;rw[hw.len]at hl;refine⟨hw.hist.snoc ⟨.inr lc_,by show 1<=t2+1+m / 3%3;omega,by show t2+1+m / 3%3<=1000;omega,by show 1<=c2+1;omega,by show c2+1<=2000;omega,hd⟩ (by show c2+1=AB!+1;omega) (λx O hh=>by have:=hw.u2 x O hh;show x.tm<t2+1+m / 3%3;omega),p8_,by rw[cV,fG,HR AG_,JC];exact hw.q0,by rw[cV,fG,HR AH!,JC];exact hw.q1,by rw[cV,fG,j!,IL];have:=hw.q2;simp;omega,cQ_,cQ_,cQ_,p9!,p9_,qa!,wh1 hw.wh (.inr gN!)⟩
 .obtain z|z:=HU.mp O
  .exact hw.u0 x z hh
  .rw[bu_]at hh;exact absurd hh AG_
 .obtain z|z:=HU.mp O
  .exact hw.u1 x z hh
  .rw[bu_]at hh;exact absurd hh AH!
 .obtain z|z:=HU.mp O
  .have:=hw.u2 x z hh;omega
  .rw[bu_];exact MF _
end
section
variable{ρ:Ad}
def b7i{i:Nat}{fx fv:e!}{j:Int}{ds:b!}{k:Nat}(hv:fv ρ=some d)(O:AH_)(hl:qb!)(hk:Ea ds.length j=some k):Vf i fx fv ρ=some (.nx wR_):=by unfold Vf;rw[hv,O,hl];show(ou_).map _=_;rw[hk];rfl
def a3m{i:Nat}{fx:e!}{j:Int}(O:AH_)(hl:qb!)(h:Cw ds j=some d):Me i fx ρ=some d:=by unfold Me;rw[O,hl];exact h
def c9t{i:Nat}{f:e!}{ds:b!}(hf:cl!)(hl:qb!)(hb:f_<big):Pr i f ρ=some wP!:=by unfold Pr;rw[hf,hl];show(if f_<big then _ else _)=_;rw[IA hb]
def c6s{fs:as_}{ds:b!}(h:ho!)(hl:xi!):Az fs ρ=some dk_:=by unfold Az;rw[h];show xi_=_;rw[xj!]
def c4q{f:e!}(h:cl!)(n:Ei d=true):Ii f ρ=some d:=by unfold Ii;rw[h];show(if Ei d=true then _ else _)=_;rw[IA n]
end
def b9e{j:Int}:Eh (.int 7) dl!=some (.int (7*j)):=rfl
def b6c{ns:z!}{base j m kk a c t:Int}{os cs ts:b!}{dd:D}{k:Nat}(em:Bi [bH!,.int (base+7*j)]=some bF!)(ed:Kq [bH!,.int (base+7*j+1),.lst os,.int 5]=some dd)(nd:Ei dd=true)(z:m%3=kk)
  (hc:Cw cs kk=some (.int c))(ht:Cw ts kk=some (.int t))(kc:Ea cs.length kk=some k)(kt:Ea ts.length kk=some k)(bu:Cw AI_ kk=some (.int (c+1)))(ht':Cw AK! kk=some AJ_)
  (ha:Cw [D.int 0,.int 5,.int 15] kk=some (.int a))(hb:V!<big):
  Vu [z_,au_,some N,some (.lst os),some (.lst cs),some (.lst ts),some dl!,x7,x8,x9]=some (.nx [z_,au_,some N,some (.lst (os++[.tup [.int a,.int (c+1),.int (t+1+m / 3%3),dd]])),some (.lst AI_),some (.lst AK!),some dl!,some bF!,some (.int kk),some dd]):=by
 refine(bL (iI (xN (dH rfl (dH AL! rfl)) em))).trans ?_;refine(bL (iI (gK rfl rfl ((a9y c_).trans hc!)))).trans ?_;refine(bL (b7i (gK (a3m rfl rfl hc) rfl rfl) rfl rfl kc)).trans ?_;refine(bL (b7i (gK (gK (a3m rfl rfl ht) rfl rfl) (gK (gK rfl rfl rfl) rfl (a9y c_)) rfl) rfl rfl kt)).trans ?_;refine(bL (iI (c4q (xN (dH rfl (dH (gK AL! rfl rfl) (dH rfl oI!))) ed) nd))).trans ?_;exact c9t (c6s (dH (gK rfl rfl ha) (dH (a3m rfl rfl bu) (dH (a3m rfl rfl ht') oI!))) rfl) rfl hb
def b3p(ns:z!)(base:Int)(N:Nat)(hN:N<=100):∃os:List Op,Ki [bH!,.int base,.int N]=some hY_/\V!=N/\Fx os/\∀x∈os,AC!/\x.tm<=3*N:=by
 let P:Nat->Ad->Prop:=λi ρ=>∃(os:h!) (c0 c1 c2 t0 t1 t2:Int) (x6 x7 x8 x9:ah!),ρ=AM_/\V!=i/\HW i os c0 c1 c2 t0 t1 t2
 obtain⟨ρ',e,os,c0,c1,c2,t0,t1,t2,x6,x7,x8,x9,rfl,hl,hw⟩:=qC (bnd:=Bx 6) (q:=Vu) P fs! 0
  le_
  ⟨[],0,0,0,0,0,0,none,none,none,none,rfl,rfl,HW.nil⟩ (by
   rintro j d ρ hd ⟨os,c0,c1,c2,t0,t1,t2,x6,x7,x8,x9,rfl,hl,hw⟩;unfold Dp at hd;rw[JG]at hd;obtain⟨i',c8,rfl⟩:=IB.mp hd;obtain⟨ai,he⟩:=IJ.mp c8;rw[PK]at he;subst he;rw[MM]at ai;have ho:∀o∈os.map Op.v,Vo o:=hw.opok;have wj:(Z_).length<=100:=by rw[IF];omega
   obtain⟨m,em,m0,_⟩:=jJ ns (k:=base+7*(j:Nat));obtain⟨dd,ed,hd⟩:=c4x ns (base:=base+7*(j:Nat)+1) (most:=5) ho wj c_ c_;have nd:=b0q hd;have hb:(Z_).length<big:=by unfold big;omega
   have TB:m%3=0\/m%3=1\/m%3=2:=by omega
   obtain z|z|z:=TB
   .exact⟨_,_,rfl,qc!,_,_,_,_,_,_,_,_,_,_,_,qc_,el_,hw.step0 a! a! hd⟩
   .exact⟨_,_,rfl,qc!,_,_,_,_,_,_,_,_,_,_,_,qc_,el_,hw.step1 a! a! hd⟩
   .exact⟨_,_,rfl,qc!,_,_,_,_,_,_,_,_,_,_,_,qc_,el_,hw.step2 a! a! hd⟩)
 have UB:V!=N:=by simpa[Dp]using hl
 refine⟨os,?_,UB,hw.hist,by have:=hw.tb;simpa[Dp]using this⟩;have L:-1000<=(N:Int)/\(N:Int)<=100000:=by omega
 have hf:Rp (Em x!) gA! Vu le_=some (.nx AM_):=by
  have hi:Em x! le_=some fs!:=by
   simp[Em,Aa,L]
  unfold Rp;rw[hi];exact e
 have hq:Qz AN_=some (.rt hY_):=by
  show sSeq mT! (sSeq (Lp 4 iZ_) (sSeq (Lp 5 iZ_) (sSeq (Rp (Em x!) gA! Vu) (Bk O_)))) _=_;rw[bL (ρ':=[z_,au_,hZ!,hJ!,none,none,none,none,none,none]) rfl];rw[bL (ρ':=[z_,au_,hZ!,hJ!,qb_,none,none,none,none,none]) rfl];rw[bL (ρ':=le_) rfl];rw[bL hf];rfl
 unfold Ki Cg;rw[gV_];show(match Qz AN_ with|some (.rt d)=>some d|some (.nx _)=>some .non|none=>none)=_;rw[hq]
def d0y{o:Op}(nd:t.nd)(h:Zg o):Cc t du_=some C!:=by exact d2w nd h.hb.1 h.hb.2 h.n1 h.n2 h.t1 h.t2 h.dg
def b9d{β:Type}{f:Op->β}(hf:∀a b,f a=f b->a.h=b.h):∀(os:h!),(∀h,((fS_).map f).Nodup)->(os.map f).Nodup
 |[],_=>MY
 |o::os,H=>by
  have sub:∀h,(fS_).Sublist (hs (o::os) h):=λh=>by unfold hs;exact(List.sublist_cons_self o os).filter _
  rw[HZ,IN];refine⟨cL!,b9d hf os λh=>((sub h).map f).nodup (H h)⟩;obtain⟨x,O,e⟩:=IP.mp z;have hh:=hf _ _ e;have H1:=H o.h;have:hs (o::os) o.h=o::hs os o.h:=by unfold hs;rw[KJ d_]
  rw[this,HZ,IN]at H1;exact H1.1 (IP.mpr ⟨x,kO.mpr ⟨O,hh⟩,e⟩)
def Fx.names{os:h!}(h:Fx os):(pm!).Nodup:=by
 refine b9d AP! os λk=>?_
 .show"!9";exact e.1
 .have hn:=(h.ch k).num;rw[NV,PX,PM];intro i j hi hj wp e;have e1:=hn i _ (IM hi);have e2:=hn j _ (IM hj);show"!9";omega
def Fx.keys{os:h!}(h:Fx os):(os.map Op.key).Nodup:=by
 refine b9d AP! os λk=>?_
 .simp only[Op.key,LH]at e;exact e.2
 .rw[NV,PX];refine(h.ch k).tim.imp λ{a b} lj e=>?_;simp only[Op.key,LH]at e;omega
end K11
namespace K11
open PySem L2 DL
open Classical
def Pu(f:WE)(ρ:Ad)(M:Mh)(d:D):Prop:=∀K:D->Mh->Prop,K d M->f ρ M K
def Wi(f:WT)(ρ:Ad)(M:Mh)(b:Bool):Prop:=∀K:Bool->Mh->Prop,K b M->f ρ M K
def Tk(g:WF)(ds:b!)(M:Mh)(d:D):Prop:=∀K:D->Mh->Prop,K d M->g ds M K
section
variable{M:Mh}{ρ:Ad}
def hV{α:Type}{x:α}{R:pA!}(h:R x):Dx gh! R:=h
def aT{f:e!}(h:cl!):Pu hU! ρ M d:=λK hK=>by rw[cO h];exact hK
def eM{a:xz!}{fs:aS_}{fo:WE}(h:Pu fo ρ M ci_)(hM:M a=some he_)(hv:fs.lookup x=some v):Pu (Av C x fo) ρ M v:=λK hK=>by
 unfold Av;refine h _ ?_;have:Gr C x M ci_=some v:=by simp only[Gr,hM,JT,hv]
 rw[this];exact hK
def fE{g:bs_}{fa fb:WE}(ha:Pu fa ρ M x)(hb:Pu fb ρ M y)(hg:AP_):Pu (w2 g fa fb) ρ M d:=λK hK=>by
 unfold w2;refine ha _ (hb _ ?_);rw[hg];exact hK
def vT{ep:Nat}{fo fa fb:WE}(ho:Pu fo ρ M G!)(ha:Pu fa ρ M y)(hb:Pu fb ρ M z)(hp:bG!)(hk:b0!)(hd:(hO!).getD z=d):Pu (Iw fo fa fb) ρ M d:=λK hK=>by
 have c:Ef M G!=some kW!:=by simp[Ef,hp]
 unfold Iw;refine ho _ ?_;rw[c];refine ha _ (hb _ ?_);rw[c,hk];show K ((hO!).getD z) M;rw[hd];exact hK
def a5n{g:hL!}{f:WE}(h:Pu f ρ M x)(hg:g M [x]=some d):Pu (w1 g (Ab f Af)) ρ M d:=λK hK=>by
 unfold w1 Ab Af;refine h _ ?_;show Dx (g M [x]) λd=>K d M;rw[hg];exact hK
def pQ{g:WF}{f1:WE}{a:D}(B:lg!)(hg:Tk g [a] M d):Pu (Am 1 g (Ab f1 Af)) ρ M d:=λK hK=>by
 unfold Am Ab Af;exact B _ lg_
def dS{g:WF}{f1 f2:WE}{a:D}(B:lg!)(Y:Pu f2 ρ M b)(hg:Tk g ak_ M d):Pu (Am 2 g (Ab f1 (Ab f2 Af))) ρ M d:=λK hK=>by
 unfold Am Ab Af;exact B _ (Y _ lg_)
def a5o{g:WF}{f1 f2 f3:WE}{a:D}(B:lg!)(Y:Pu f2 ρ M b)(h3:Pu f3 ρ M c)(hg:Tk g eE! M d):Pu (Am 3 g (Ab f1 (Ab f2 (Ab f3 Af)))) ρ M d:=λK hK=>by
 unfold Am Ab Af;exact B _ (Y _ (h3 _ lg_))
def eJ{g:WF}{fo f1:WE}{a:D}(h0:Pu fo ρ M ag!)(ho:Dg C m M ag!)(B:lg!)(hg:Tk g [bc!,a] M d):Pu (Ba C m 2 g fo (Ab f1 Af)) ρ M d:=λK hK=>by
 unfold Ba Ab Af;exact h0 _ ⟨ho,B _ lg_⟩
def lH{f:WE}{b:Bool}(h:Pu f ρ M bM_):Wi (wT f) ρ M b:=λK hK=>by unfold wT;exact h _ hK
def iY{f:ad!}{b:Bool}(h:f ρ=some b):Wi (Da f) ρ M b:=λK hK=>by unfold Da;rw[h];exact hK
def b7l{f:WT}{b:Bool}(h:Wi f ρ M b):Wi (Lj f) ρ M (!b):=λK hK=>by unfold Lj;exact h _ hK
def d0r{f g:WT}{b c:Bool}(h:Wi f ρ M b)(Y:b=false->Wi g ρ M c)(e:b=true->c=true):Wi (Wk f g) ρ M c:=λK hK=>by
 unfold Wk;refine h _ ?_;cases b with
 |true=>rw[j!,<-e rfl];exact hK
 |false=>rw[F!];exact Y rfl K hK
def lL{i:Nat}{f:WE}{q:WS}{R:j_}(h:lh_)(k:q ck_ M R):Ah (An i f) q ρ M R:=by unfold Ah An;exact h _ k
def dA{f:WE}{R:j_}(h:lh_)(k:R bq! M):Ay f ρ M R:=by unfold Ay;exact h _ k
def vF{ft:WT}{q1 q2:WS}{R:j_}(h:Wi ft ρ M true)(k:q1 ρ M R):Aq ft q1 q2 ρ M R:=by unfold Aq;refine h _ ?_;rw[j!];exact k
def lM{ft:WT}{q1 q2:WS}{R:j_}(h:qd!)(k:fw!):Aq ft q1 q2 ρ M R:=by unfold Aq;refine h _ ?_;rw[F!];exact k
def fL{ft:WT}{q1 q2:WS}{R:j_}(h:qd!)(k:fw!):Ah (Aq ft q1 Bq) q2 ρ M R:=by unfold Ah;exact lM h k
def DR(C:xz!)(x:Str)(fo:e!)(ρ:Ad)(y:D)(M:Mh)(Q:bJ!):Prop:=wl fo ρ M λd M2=>match d with
 |.fn p=>(match M2 p with|some (.obj C' fs)=>C'=C/\bv_<100/\Q (Bd M2 p pP!)|_=>False)
 |_=>False
def uH{fo:e!}{f:WE}{R:j_}(h:f ρ M λy M1=>DR C x fo ρ y M1 λM2=>R aM_ M2):Fh C x cH_ f ρ M R:=h
def vJ{fo:e!}{f:WE}{q:WS}{R:j_}(h:f ρ M λy M1=>DR C x fo ρ y M1 λM2=>q ρ M2 R):Ah (Fh C x cH_ f) q ρ M R:=h
def kD{fs vf:aS_}{fo:e!}{Q:bJ!}(h0:hV!)(hM:M p=some he_)(hl:bv_<100)(hf:Bo x y fs=vf)(k:Q (Bd M p (.obj C vf))):DR C x fo ρ y M Q:=by unfold DR;rw[cO h0];show(match M p with|some (.obj C' fs)=>C'=C/\bv_<100/\Q (Bd M p pP!)|_=>False);rw[hM];subst hf;exact⟨rfl,hl,k⟩
end
def nK(h:cJ_)(hd:Ij d<=40):Eu d d=some X_:=by unfold Eu;rw[h,qU d h,IT hd];rfl
def b8o(o:Op):Ai o.v bf_=some fG_:=by simp[Op.v,Ai,Cw,Ea]
def gP:∀{ds:b!},(∀d∈ds,Bh d=true)->Bp ds=true
 |[],_=>by simp[Bp]
 |d::ds,h=>by
  unfold Bp;rw[h d HV,gP λx O=>h x bH_];rfl
def iV{n:Nat}:∀{ds:b!},(∀d∈ds,Ij d<=n)->Dj ds<=n
 |[],_=>by simp[Dj]
 |d::ds,h=>by
  unfold Dj;have B:=h d HV;have Y:=iV λx O=>h x (HP d O);omega
def nF{o:Op}(h:DG o.d):Bh o.v=true/\Ij o.v<=5:=by
 obtain⟨B,Y⟩:=d1w h;show"!H"
 .show Bp kz!=true;refine gP λd hd=>?_;simp only[HQ,JI,LB]at hd;obtain rfl|rfl|rfl|rfl:=hd
  .rfl
  .rfl
  .rfl
  .exact B
 .show Dj kz!+1<=5;have:Dj kz!<=2:=iV λd hd=>by
   simp only[HQ,JI,LB]at hd;obtain rfl|rfl|rfl|rfl:=hd
   .simp[Ij]
   .simp[Ij]
   .simp[Ij]
   .exact Y
  omega
nonrec def hF(yy:Int)(ta wa:xz!)(out:D):List cm_:=[("ours",.int yy),("taken",.fn ta),("waiting",.fn wa),("outline",out)]
section
variable{yy:Int}{ta wa:xz!}{out:D}
def hF1:List.lookup AR_ dC!=some (D.int yy):=by kernel_rfl
def hF2:List.lookup AS! dC!=some (D.fn ta):=by kernel_rfl
def hF3:List.lookup AS_ dC!=some (D.fn wa):=by kernel_rfl
def hF4:List.lookup qe_ dC!=some out:=by kernel_rfl
def hM1:List.lookup (Str.ofString "have") dC!=none:=by kernel_rfl
def hP1:Bo AR_ qf! []=[fU!]:=by kernel_rfl
def hP2:Bo AS! li_ [fU!]=lj!:=by kernel_rfl
def hP3:Bo AS_ fV! lj!=lj_:=by kernel_rfl
def hP4:Bo qe_ .non lj_=hF yy ta wa .non:=by kernel_rfl
def hP5:Bo qe_ o2 dC!=hF yy ta wa o2:=by kernel_rfl
end
structure Cr(t:Ar)(M:Mh)(yy:Int)(a ta wa:xz!)(Wt:h!)(out:D)(S:h!)(kl:z!)(ca:qf_):Prop where
 ob:M a=some (.obj t.B3 dC!)
 tk:∃ep,M ta=some (.dct h0! ep)
 wt:M wa=some (.lst (Wt.map Op.v))
 cl:∀h∈kl,M (ca h)=some (.lst ((fV_).map Op.v))
 nk:kl.Nodup
 mem:∀h,h∈kl↔hs S h≠[]
 cw:∀h∈kl,ca h≠wa
 ci:∀h∈kl,∀h'∈kl,ca h=ca h'->h=h'
 len:qg!<=eA!
def Ow(a ta wa:xz!)(kl:z!)(ca:qf_)(b:xz!):Prop:=b=a\/b=ta\/b=wa\/∃h∈kl,b=ca h
structure Mv(M:Mh)(b7:fW!)(M':Mh)(O':fW!):Prop where
 k:∀b,M b≠none->¬b7 b->M' b=M b
 n:∀b,O' b->b7 b\/M b=none
def Mv.refl{M:Mh}{b7:fW!}:Mv M b7 M b7:=⟨λ_ _ _=>rfl,cF!⟩
def Mv.of{M M':Mh}{b7:fW!}(h:AU_):Mv M b7 M' b7:=⟨λb hb _=>h b hb,cF!⟩
def Mv.trans{M M1 M2:Mh}{b7 O1 O2:fW!}(h:Mv M b7 M1 O1)(g:Mv M1 O1 M2 O2):Mv M b7 M2 O2:=by
 refine⟨qg_,λb ho=>?_⟩
 .have e:=h.k b hb ho;exact(g.k b (by rw[e];exact hb) λz=>(h.n b z).elim ho hb).trans e
 .obtain z|z:=g.n b ho
  .exact h.n b z
  .by_cases c:M b=none
   .exact .inr c
   .by_cases d:b7 b
    .exact .inl d
    .rw[h.k b c d]at z;exact .inr z
def fW{g:Int->D}:∀{kl:z!} {x:Int},kget (kl.map λh=>(D.int h,g h)) (.int x)=if x∈kl then some (g x)else none
 |[],x=>by simp[kget]
 |k::kl,x=>by
  rw[HZ];unfold kget;by_cases e:k=x
  .subst e;simp
  .rw[HR λz=>e (D.int.inj z),fW];simp[HY e]
section
variable{t:Ar}{M:Mh}{yy:Int}{a ta wa:xz!}{Wt:List Op}{out:D}{S:List Op}{kl:List Int}{ca:Int->Addr}
def Cr.nob(hA:aU!)(hm:(dC!).lookup m=none):Dg t.B3 m M ci_:=by show(match M a with|some (.obj C' fs)=>C'=t.B3/\fs.lookup m=none|_=>False);rw[hA.ob];exact⟨rfl,hm⟩
def Cr.nol(hA:aU!){h:Int}(hh:h∉kl):hs S h=[]:=Classical.byContradiction λz=>hh ((hA.mem h).mpr z)
def Cr.keep{M':Mh}(hA:aU!)(k:AU_):Cr t M' yy a ta wa Wt out S kl ca:=by obtain⟨ep,ht⟩:=hA.tk;exact{hA with ob:=(k a lk!).trans hA.ob,tk:=⟨ep,(k ta qh_).trans ht⟩,wt:=(k wa qi!).trans hA.wt,cl:=λh hh=>(k _ qi_).trans lk_}
def Cr.lv(hA:aU!)(h:Ow a ta wa kl ca b):M b≠none:=by
 obtain⟨ep,ht⟩:=hA.tk;obtain rfl|rfl|rfl|⟨h,hh,rfl⟩:=h
 .rw[hA.ob];simp
 .rw[ht];simp
 .rw[hA.wt];simp
 .rw[hA.cl h hh];simp
def Cr.mv{M':Mh}{b7 O':fW!}(hA:aU!)(m:Mv M b7 M' O')(d:∀b,Ow a ta wa kl ca b->¬b7 b):Cr t M' yy a ta wa Wt out S kl ca/\∀b,Ow a ta wa kl ca b->¬O' b:=by have k:∀b,Ow a ta wa kl ca b->M' b=M b:=λb hb=>m.k b (hA.lv hb) (d b hb);obtain⟨ep,ht⟩:=hA.tk;exact⟨{hA with ob:=(k a ao_).trans hA.ob,tk:=⟨ep,(k ta lc_).trans ht⟩,wt:=(k wa (.inr lc_)).trans hA.wt,cl:=λh hh=>(k _ (.inr (.inr (.inr ⟨h,hh,rfl⟩)))).trans lk_},λb hb z=>(m.n b z).elim (d b hb) (hA.lv hb)⟩
def qP{h:Int}(hA:aU!):Tk eV_ [V_,aR!] M qk_:=λK hK=>by
 obtain⟨ep,ht⟩:=hA.tk;refine k!;by_cases c:h∈kl
 .have hl:Uq M [.fn (ca h)]=some qk_:=by
   show((Pq M ll!).map λxs=>D.int k_)=_;simp only[Pq,hA.cl h c,OH,IF]
  exact dA (a5n (vT h0_ ll_ AW! ht (k:=ql_) rfl (by rw[fW,IA c];rfl)) hl) hK
 .have hl:Uq M [k8_]=some qk_:=by rw[hA.nol c];rfl
  exact dA (a5n (vT h0_ ll_ AW! ht (k:=ql_) rfl (by rw[fW,HR c];rfl)) hl) hK
def pI{o:Op}(hA:aU!):Tk (Fy t) lm_ M (.bl (decide (o.n<=h1!))):=λK hK=>by
 refine k!;exact dA (fE (aT (a1t o)) AW_ rfl) hK
def xF{o:Op}(hA:aU!):Tk (Hc t) lm_ M (.bl (o.n==h1!+1)):=λK hK=>by
 refine k!;exact dA (fE (aT (a1t o)) (fE AW_ (aT (d:=.int 1) rfl) (d:=.int (h1!+1)) rfl) ln!) hK
nonrec def lt(S:h!)(h:Int):Int:=((fV_).getLast?.map Op.tm).getD 0
def c4b{xs:b!}(h:xs.getLast?=some v):Cw xs (-1)=some v:=by
 have hl:0<k_:=by cases xs with|nil=>cases h|cons a l=>simp
 unfold Cw Ea;rw[HR a!,S_];show xs[((-1:Int)+k_).toNat]?=_;rw[show((-1:Int)+xs.length).toNat=xs.length - 1 by omega,<-List.getLast?_eq_getElem?];exact h
def a2p{h:Int}(hA:aU!):Tk (Ht t) [V_,aR!] M (.int (lt S h)):=λK hK=>by
 obtain⟨ep,ht⟩:=hA.tk;refine k!;show Ah sv! sw! [o_,ln_] M _;have hv:=lH (fE (g:=λ_=>Aw) (ρ:=[o_,ln_]) (eJ h3! qm! (aT (f:=Aa 1) (d:=aR!) rfl) (qP hA)) (aT (f:=fC O!) rfl) ln!);by_cases c:hs S h=[]
 .rw[c]at hv;unfold Ah;refine vF hv (dA lo_ ?_);unfold lt at hK;rw[c]at hK;exact hK
 .have hl:0<(fV_).length:=List.length_pos_iff.mpr c;rw[show((qk!:Int)==0)=false from by rw[KH];omega]at hv;refine fL hv ?_;have hk:=(hA.mem h).mpr c;obtain⟨o,ho⟩:∃o,(hs S h).getLast?=some o:=by cases e:(fV_).getLast? with|some o=>exact⟨o,rfl⟩|none=>exact absurd (List.getLast?_eq_none_iff.mp e) c
  have i1:Br M li_ h2_=some ll!:=(AY_).trans AZ!;have i2:Br M ll! (.int (-1))=some o.v:=by
   simp only[Br,hA.cl h hk];exact c4b (by rw[List.getLast?_map,ho];rfl)
  have e:lt S h=o.tm:=by unfold lt;rw[ho];rfl
  rw[e]at hK;exact dA (fE (fE (fE h0_ ll_ i1) (aT (d:=.int (-1)) rfl) i2) A0_ (b8o o)) hK
def zQ{ρ:Ad}{R:s_}(hR:∀a ta wa M',M a=none->Cr t M' yy a ta wa [] .non [] [] qn_->pc!->(∀b,Ow a ta wa [] qn_ b->M b=none)->R ci_ M'):Gu t.B3 2 (Iu t) (Ab (wl (fC qf!)) Af) ρ M R:=by
 unfold Gu Ab Af;rw[cO (f:=fC qf!) (d:=.int yy) rfl];refine⟨rfl,λa ha=>k!⟩;refine vJ ?_;rw[cO (f:=Aa 1) (d:=.int yy) rfl];refine kD (fs:=[]) rfl mup_same c_ hP1 ?_;generalize e1:Bd (Bd M a (.obj t.B3 [])) a A1!=M1;have a1:M1 a=some A1!:=by rw[<-e1];exact mup_same
 have o1:∀b,b≠a->M1 b=M b:=λb hb=>by rw[<-e1,bt!,bt!]
 refine vJ ?_;intro ta TH;have u7:a≠ta:=aW (by rw[a1];simp) TH;refine kD (fs:=[fU!]) rfl ((mup_ne u7).trans a1) (by show 1<100;decide) hP2 ?_;generalize e2:Bd (Bd M1 ta A_) a A1_=M2;have a2:M2 a=some A1_:=by rw[<-e2];exact mup_same
 have XJ:M2 ta=some A_:=by rw[<-e2,mup_ne lq!];exact mup_same
 have o2:∀b,b≠a->b≠ta->M2 b=M b:=λb hb hc=>by rw[<-e2,bt!,mup_ne hc];exact o1 b hb
 refine vJ ?_;refine⟨ag_,λwa xp=>?_⟩;have xq:a≠wa:=aW (by rw[a2];simp) xp;have XN:ta≠wa:=aW (by rw[XJ];simp) xp;refine kD (fs:=lj!) rfl ((mup_ne xq).trans a2) A2_ hP3 ?_;generalize e3:Bd (Bd M2 wa eu_) a A3!=M3;have a3:M3 a=some A3!:=by rw[<-e3];exact mup_same
 have o3:∀b,b≠a->b≠wa->M3 b=M2 b:=λb hb hc=>by rw[<-e3,bt!,mup_ne hc]
 have w3:M3 wa=some eu_:=by rw[<-e3,A4!];exact mup_same
 refine uH ?_;rw[qp_];refine kD (fs:=lj_) rfl a3 A2_ hP4 ?_;refine⟨rfl,hR a ta wa _ ha ⟨mup_same,p2_,?_,qq!,MY,λh=>by simp[hs],qq!,qq!,IQ _⟩ ii! λb hb=>?_⟩
 .rw[mup_ne lq!,o3 ta lq! XN];exact XJ
 .rw[A4!];exact w3
 .have ba:b≠a:=aW hb ha;have bt:b≠ta:=aW (N:=M1) (by rw[o1 b ba];exact hb) TH;have bw:b≠wa:=aW (N:=M2) (by rw[o2 b ba bt];exact hb) xp;rw[mup_ne ba,o3 b ba bw,o2 b ba bt]
 .obtain rfl|rfl|rfl|⟨_,h,_⟩:=hb
  .exact ha
  .rw[<-o1 _ lq!];exact TH
  .rw[<-o2 _ (HY xq) (HY XN)];exact xp
  .cases h
end
structure Uw(U:h!)(yy:Int):Prop where
 h:Fx U
 y:∀o∈U,o.h≠yy
 l:U.length<10
structure Gd(U S Wt:h!):Prop where
 hS:Fx S
 wn:∀o∈Wt,b4!<o.n
 pm:∃Q,U.Perm (S++Wt++Q)
def Vd(S Wt:h!):Prop:=∀x∈Wt,x.n≠(((hs S x.h).length:Nat):Int)+1
section
variable{U S Wt:List Op}{yy:Int}{o x y:Op}
def Fx.ix(h:Fx U)(ho:a2_):∃i:Nat,lr![i]?=some o/\o.n=aG_+1:=by
 obtain⟨i,hi,e⟩:=List.mem_iff_getElem.mp (kO.mpr ⟨ho,rfl⟩);have z:lr![i]?=some o:=by rw[IM hi,e]
 exact⟨i,z,(h.ch _).num i o z⟩
def Fx.uniq(h:Fx U)(O:x∈U)(hy:y∈U)(e:x.h=y.h)(n:x.n=y.n):x=y:=by
 obtain⟨i,B,Y⟩:=h.ix O;obtain⟨j,h3,h4⟩:=h.ix hy;have z:i=j:=by omega
 subst z;rw[e,h3]at B;exact(JN B).symm
def Fx.nodup(h:Fx U):U.Nodup:=by have:=h.names;rw[NV,PX]at this;exact this.imp λu8 e=>u8 (by rw[e])
def Fx.rise(h:Fx U)(O:x∈U)(hy:y∈U)(e:x.h=y.h)(hn:x.n<y.n):x.tm<y.tm:=by obtain⟨i,B,Y⟩:=h.ix O;obtain⟨j,h3,h4⟩:=h.ix hy;rw[e]at B;obtain⟨hi,ei⟩:=IJ.mp B;obtain⟨hj,ej⟩:=IJ.mp h3;have:=PM.mp (h.ch y.h).tim i j hi hj a!;rw[ei,ej]at this;exact this
def Fx.le(h:Fx S)(ho:o∈S):o.n<=b4!:=by obtain⟨i,B,Y⟩:=h.ix ho;have:=(fo!).1;omega
def Uw.nxt(hU:I!)(ho:a2_){k:Nat}(hk:(k:Int)+1<o.n):∃x∈U,x.h=o.h/\x.n=(k:Int)+1:=by obtain⟨i,B,Y⟩:=hU.h.ix ho;have hi:=(fo!).1;have z:lr![k]?=some lr![k]:=IM a!;have m:=kO.mp (JW (l:=hs U o.h) (n:=k) a!);exact⟨_,m.1,m.2,(hU.h.ch _).num k _ z⟩
def Gd.sub(g:a3!)(h:o∈S\/o∈Wt):o∈U:=by obtain⟨Q,p⟩:=g.pm;exact p.mem_iff.mpr (IS _ (HU.mpr h))
def Gd.same(hU:I!)(g:a3!)(ho:a2_)(hn:o.n<=b4!):dC_[(eB_).toNat]?=some o:=by have n1:=(fX!).n1;have z:dC_[(eB_).toNat]?=some dC_[(eB_).toNat]:=IM a!;have m:=kO.mp (JW (l:=hs S o.h) (n:=(eB_).toNat) a!);have e:=(g.hS.ch _).num _ _ z;rw[z,hU.h.uniq Bc! ho m.2 a!]
def Gd.out(g:a3!)(ho:a2_)(hn:b4!<o.n)(hw:o∉Wt):∃Q,U.Perm (S++Wt++o::Q)/\∀x∈U,x∉S->x∉Wt->x≠o->x∈Q:=by
 obtain⟨Q,p⟩:=g.pm;have m:∀x∈U,x∉S->x∉Wt->x∈Q:=λx O B Y=>by
  have:=p.mem_iff.mp O;simp only[HU]at this;rcases this with(z|z)|z
  .exact absurd z B
  .exact absurd z Y
  .exact z
 have hS:o∉S:=λz=>by have:=g.hS.le z;omega
 exact⟨Q.erase o,p.trans ((List.perm_cons_erase (m o ho hS hw)).append_left _),λx O B Y h3=>(List.mem_erase_of_ne h3).mpr (m x O B Y)⟩
def Gd.hist(hU:I!)(g:a3!)(ho:a2_)(hn:ls_):Fx h5_:=
 g.hS.snoc fX! hn λx O e=>hU.h.rise (g.sub (.inl O)) ho e (by have:=g.hS.le O;rw[e]at this;omega)
def Gd.wn'(hU:I!)(g:a3!)(ho:a2_)(hn:ls_)(O:x∈Wt)(ne:x≠o):(((hs h5_ x.h).length:Nat):Int)<x.n:=by
 have:=g.wn x O;rw[cV,fG];by_cases c:o.h=x.h
 .rw[IA c,IL];have:x.n≠o.n:=λz=>ne (hU.h.uniq (g.sub (.inr O)) ho c.symm z);rw[c]at hn;show((((hs S x.h).length+1:Nat)):Int)<_;omega
 .rw[HR c,JC];show"#D"
def Gd.take(hU:I!)(g:a3!)(ho:a2_)(hn:ls_)(hw:o∉Wt):Gd U h5_ Wt:=by obtain⟨Q,p,_⟩:=g.out ho a! hw;refine⟨Bd_,λx O=>g.wn' hU ho hn O λz=>hw fk_,Q,p.trans ?_⟩;rw[JL,JL,JL];exact QD.append_left _
def Gd.takeW{j:Nat}(hU:I!)(g:a3!)(hj:Wt[j]?=some o)(hn:ls_):Gd U h5_ (Wt.eraseIdx j)/\∀x∈S++Wt,x∈S++[o]++Wt.eraseIdx j:=by
 obtain⟨Q,p⟩:=g.pm;obtain⟨hl,e⟩:=IJ.mp hj;have q:(Be!).Perm Wt:=by
  rw[OO];refine QD.symm.trans (RZ ?_);rw[<-e,<-LC hl,OU]
 have nd:(Be!).Nodup:=by
  have:=p.nodup_iff.mp hU.h.nodup;rw[JL,JB]at this;exact q.nodup_iff.mpr (JB.mp this.2.1).1
 have ho:o∈U:=g.sub (.inr (q.mem_iff.mp HV));have pp:(S++Wt).Perm (S++[o]++Wt.eraseIdx j):=by rw[JL];exact q.symm.append_left _
 refine⟨⟨Bd_,λx O=>g.wn' hU ho hn (q.mem_iff.mp bH_) λz=>(gD!).1 fk_,Q,p.trans (pp.append_right _)⟩,λx O=>pp.mem_iff.mp O⟩
def Gd.wait(g:a3!)(ho:a2_)(hn:b4!<o.n)(hw:o∉Wt):Gd U S (Wt++[o]):=by
 obtain⟨Q,p,_⟩:=g.out ho hn hw;refine⟨g.hS,aZ_,Q,by simpa using p⟩;obtain z|z:=HU.mp O
 .exact g.wn x z
 .rw[bu_];exact hn
def Gd.cap(hU:I!)(g:a3!)(ho:a2_)(hn:b4!+1<o.n)(hw:o∉Wt)(O:Vd S Wt):qr_<8:=by
 obtain⟨Q,p,m⟩:=g.out ho a! hw;obtain⟨x,B,Y,h3⟩:=hU.nxt ho hn;have:x∈Q:=m x B (λz=>by have:=g.hS.le z;rw[Y]at this;omega) (λz=>O x z (by rw[Y];exact h3)) λz=>by rw[z]at h3;omega
 have l:=p.length_eq;have:=List.length_pos_of_mem this;have:=hU.l;simp only[IL,IH]at l;omega
def Gd.len(hU:I!)(g:a3!):eA!+qr_<10:=by obtain⟨Q,p⟩:=g.pm;have l:=p.length_eq;have:=hU.l;simp only[IL]at l;omega
def Gd.done(hU:I!)(g:a3!)(O:Vd S Wt)(hc:∀o∈U,o∈S++Wt):S.Perm U:=by
 obtain⟨Q,p⟩:=g.pm;have w:Wt=[]:=by
  cases e:Wt with
  |nil=>rfl
  |cons w l=>
   have hw:w∈Wt:=by rw[e];exact HV
   have B:=g.wn w hw;have Y:=O w hw;obtain⟨x,h3,h4,h5⟩:=hU.nxt (g.sub (.inr hw)) (k:=(hs S w.h).length) a!;obtain z|z:=HU.mp (hc x h3)
   .have:=g.hS.le z;rw[h4]at this;omega
   .exact absurd (by rw[h4];exact h5) (O x z)
 subst w;have q:Q=[]:=by
  cases Q with
  |nil=>rfl
  |cons q l=>
   have nd:=p.nodup_iff.mp hU.h.nodup;have:=hc q (p.mem_iff.mpr d_);exact absurd rfl ((JB.mp nd).2.2 q this q HV)
 subst q;simpa using p.symm
end
section
variable{t:Ar}{M:Mh}{ρ:Ad}{yy:Int}{a ta wa:xz!}{Wt:List Op}{out:D}{S:List Op}{kl:List Int}{ca:Int->Addr}
def cI{ep:Nat}(hp:bG!):Ef M G!=some kW!:=by simp[Ef,hp]
def jZ(hp:M p=some R!):Mf M G!=some (p,xs):=by simp[Mf,hp]
def FS(fa:e!)(ρ:Ad)(d:D)(M:Mh)(R:s_):Prop:=Dx (Mf M d) λ_=>wl fa ρ M λv M2=>Dx pD_ λq=>pD!<big/\R .non zl_
def b1m{fo:WE}{fa:e!}{q:WS}{R:j_}(h:fo ρ M λd M1=>FS fa ρ d M1 λ_ M2=>q ρ M2 R):Ah (Bu (Ts fo fC!)) q ρ M R:=h
def xW{xs:b!}{f:e!}{R:s_}(hp:M p=some R!)(hf:f ρ=some v)(hl:k_<big)(k:R .non (Bd M p (.lst (xs++[v])))):FS f ρ G! M R:=by unfold FS;rw[jZ hp];refine hV ?_;rw[cO hf,jZ hp];exact hV ⟨hl,k⟩
def c2j{kvs:h_}{ep:Nat}{fo:WE}{fa:e!}{K:s_}(ho:Pu fo ρ M G!)(B:la!)(hp:bG!)(hk:b0!)(hl:cN_)
  (ao:∀q v,M q=none->kget kvs y=some v->K v h6!)(new:∀q,M q=none->kget kvs y=none->K bU_ (Bd h6! p (.dct (As kvs y bU_) bI_))):Hi fo fC! (Qd Af) ρ M K:=by
 unfold Hi;refine ho _ ?_;rw[cI hp];refine hV ?_;rw[cO B];refine Aa!;have pq:p≠q:=aW Bg! hq;show Dx (Ef h6! G!) _;rw[cI ((mup_ne pq).trans hp)];refine hV ?_;rw[hk];refine hV qs!;cases e:kget kvs y with
 |some v=>exact ao q v hq e
 |none=>exact new q hq e
def a0w{o:Op}{R:s_}(hA:aU!)(hS:eA!<64)(hR:∀M' xr xt,Cr t M' yy a ta wa Wt .non h5_ xr xt->Mv M qs_ M' (Ow a ta wa xr xt)->R .non M'):Kh t lm_ M R:=by
 obtain⟨ep,ht⟩:=hA.tk;refine k!;refine b1m ?_;have i0:f2 Ai u_ B_ [o_,K_]=some cq!:=rX o;have hkl:qg!<64:=MB hA.len hS;have TJ:(dC_).length<64:=MB (xK S o.h) hS;have at_:a≠ta:=λz=>by have:=hA.ob;rw[z,ht]at this;cases this
 have aw:a≠wa:=λz=>by have:=hA.ob;rw[z,hA.wt]at this;cases this
 have tw:ta≠wa:=λz=>by rw[z,hA.wt]at ht;cases ht
 have cA:∀h∈kl,ca h≠a:=λh hh z=>by have:=hA.cl h hh;rw[z,hA.ob]at this;cases this
 have cT:∀h∈kl,ca h≠ta:=λh hh z=>by have:=hA.cl h hh;rw[z,ht]at this;cases this
 refine c2j (k:=lu_) h0_ i0 ht rfl cs! (λq v hq e=>?_) (λq hq e=>?_)
 .have aq:a≠q:=aW lk! hq;have tq:ta≠q:=aW qh_ hq;have wq:wa≠q:=aW qi! hq;have cq:∀h∈kl,ca h≠q:=λh hh=>aW qi_ hq;rw[fW]at e;have c:o.h∈kl:=by
   by_cases c:o.h∈kl
   .exact c
   .rw[HR c]at e;cases e
  rw[IA c]at e;cases e;refine xW (p:=ca o.h) (v:=o.v) ((mup_ne (cq _ c)).trans (hA.cl _ c)) rfl cs! ?_;generalize e2:Bd h6! lv! Bh!=M2;have m2:∀b,b≠q->b≠ca o.h->M2 b=M b:=λb B Y=>by rw[<-e2,cC_,ci!]
  have m2c:M2 lv!=some Bh!:=by rw[<-e2];exact mup_same
  refine uH ?_;rw[qp_];refine kD (fs:=Bh_) rfl ((m2 a aq (HY (cA _ c))).trans hA.ob) qt! hP5 ?_;refine hR _ kl ca ⟨mup_same,⟨ep,?_⟩,?_,qt_,hA.nk,λh=>?_,hA.cw,hA.ci,?_⟩ ⟨qg_,cF!⟩
  .rw[Bj_,m2 ta tq (HY (cT _ c))];exact ht
  .rw[Bk_,m2 wa wq (HY (hA.cw _ c))];exact hA.wt
  .rw[mup_ne (cA h hh),cV,fG];by_cases z:o.h=h
   .rw[IA z,<-z,m2c,IW];rfl
   .rw[HR z,JC,m2 _ (cq h hh) λy=>z (hA.ci _ hh _ c y).symm];exact hA.cl h hh
  .rw[cV,fG];by_cases z:o.h=h
   .rw[IA z];subst z;simp[c]
   .rw[HR z,JC];exact hA.mem h
  .rw[IL];have:=hA.len;omega
  .rw[qu!,m2 b lw! λz=>ho (.inr (.inr (.inr ⟨_,c,z⟩)))]
 .have aq:a≠q:=aW lk! hq;have tq:ta≠q:=aW qh_ hq;have wq:wa≠q:=aW qi! hq;have cq:∀h∈kl,ca h≠q:=λh hh=>aW qi_ hq;rw[fW]at e;have c:o.h∉kl:=by
   by_cases c:o.h∈kl
   .rw[IA c]at e;cases e
   .exact c
  have pz:As h0! cq! bU_=h0!++qw_:=iT (λz=>by
   rw[JR]at z;obtain⟨x,O,ex⟩:=IP.mp z;exact c (by rw[<-D.int.inj ex];exact O))
  rw[pz];refine xW (p:=q) (v:=o.v) (xs:=[]) ((mup_ne (HY tq)).trans mup_same) rfl c_ ?_;generalize e2:Bd (Bd h6! ta qx_) q (.lst ([]++du_))=M2;have m2:∀b,b≠q->b≠ta->M2 b=M b:=λb B Y=>by rw[<-e2,ci!,cC_,ci!]
  have m2q:M2 q=some (.lst du_):=by rw[<-e2];exact mup_same
  have m2t:M2 ta=some qx_:=by rw[<-e2,mup_ne tq];exact mup_same
  refine uH ?_;rw[qp_];refine kD (fs:=Bh_) rfl ((m2 a aq at_).trans hA.ob) qt! hP5 ?_;have nc:∀h∈kl,h≠o.h:=λh hh z=>c (z▸hh);have z6:hs S o.h=[]:=hA.nol c;refine hR _ (kl++[o.h]) (λh=>if h=o.h then q else ca h) ⟨mup_same,⟨ep+1,?_⟩,?_,qt_,?_,λh=>?_,qt_,λh hh h' pf ee=>?_,?_⟩ ⟨qg_,bA_⟩
  .rw[Bj_,m2t,IW];congr 3
   .apply KQ;intro h hh;rw[HR (nc h hh)]
   .show _=[(D.int o.h,D.fn (if o.h=o.h then q else ca o.h))];rw[j!]
  .rw[Bk_,m2 wa wq (HY tw)];exact hA.wt
  .show Bd M2 a _ lA!=_;by_cases z:h=o.h
   .rw[IA z,mup_ne (HY aq),m2q,z,cV,fG,j!,z6];rfl
   .have pf:h∈kl:=(lA_).resolve_right λy=>z lB!;rw[HR z,mup_ne (cA h pf),m2 _ (cq h pf) (cT h pf),cV,fG,HR (HY z),JC];exact hA.cl h pf
  .rw[JB];exact⟨hA.nk,At_,λx O y hy=>by rw[IG.mp hy];exact nc x O⟩
  .rw[cV,fG,HU,IG];by_cases z:o.h=h
   .rw[IA z];simp[z]
   .rw[HR z,JC,<-hA.mem h];simp[HY z]
  .show lA!≠wa;by_cases z:h=o.h
   .rw[IA z];exact HY wq
   .rw[HR z];exact hA.cw h ((lA_).resolve_right λy=>z lB!)
  .have g:∀x,x∈kl++[o.h]->x≠o.h->x∈kl:=λx O z=>(p8!).resolve_right λy=>z lB!;have rc:lA!=(if h'=o.h then q else ca h'):=ee;by_cases z:h=o.h
   .by_cases z':h'=o.h
    .rw[z,z']
    .rw[IA z,HR z']at rc;exact absurd rc.symm (cq h' (g h' pf z'))
   .by_cases z':h'=o.h
    .rw[HR z,IA z']at rc;exact absurd rc (cq h (g h hh z))
    .rw[HR z,HR z']at rc;exact hA.ci h (g h hh z) h' (g h' pf z') rc
  .rw[IL,IL];have:=hA.len;simp;omega
  .rw[qu!,m2 b lw! λz=>ho h8_]
  .obtain z|z|z|⟨h,hh,z⟩:=hb
   .exact .inl dj_
   .exact .inl h8_
   .exact .inl (.inr h8_)
   .have z':b=if h=o.h then q else ca h:=z
    by_cases e:h=o.h
    .rw[IA e]at z';rw[z'];exact .inr hq
    .rw[HR e]at z';exact .inl (.inr (.inr (.inr ⟨h,(lA_).resolve_right λx=>e (IG.mp x),z'⟩)))
def Cr.setW{W':h!}(hA:aU!):Cr t qC_ yy a ta wa W' out S kl ca/\Mv M qs_ qC_ qs_:=by
 obtain⟨ep,ht⟩:=hA.tk;have aw:a≠wa:=λz=>by have:=hA.ob;rw[z,hA.wt]at this;cases this
 have tw:ta≠wa:=λz=>by rw[z,hA.wt]at ht;cases ht
 exact⟨{hA with ob:=(mup_ne aw).trans hA.ob,tk:=⟨ep,(mup_ne tw).trans ht⟩,wt:=mup_same,cl:=λh hh=>(mup_ne (hA.cw h hh)).trans lk_},⟨λb _ ho=>mup_ne λz=>ho (.inr h8_),cF!⟩⟩
def BF(S:h!)(o:Op):Bool:=o.n==b4!+1
def CP(t:Ar):WE:=Ca 1 [0] (Cs dR_) J! sM! i_
def a7g(h0:Aa 0 ρ=some ci_)(hc:Ya 1 [0] ρ=[none,o_])(hA:aU!)(hl:qr_<64):Pu (CP t) ρ M (.lst ((Wt.filter (BF S)).map Op.v)):=λK hK=>by
 unfold CP Ca Cs;refine eM (aT h0) hA.ob hF3 _ ?_;show(match M wa with|some (.lst xs)=>_|_=>False);rw[hA.wt];refine p4!;rw[hc];refine cR (λd=>match d with|.tup (.int h::.int n::_)=>n==(qk!:Int)+1|_=>false) id hA.wt _ _ bI! ?_
 .show"#.";exact⟨[K_,o_],rfl,λK hK=>lH (dS lD_ h3! (xF (o:=o) hA)) K hK,λ_ K hK=>by rw[cO (f:=Aa 0) (d:=o.v) rfl];exact hK⟩
 .rw[QV,NJ];exact hK
structure Yk where
 M:Mh
 W:List Op
 S:List Op
 kl:List Int
 ca:Int->Addr
structure Hd(t:Ar)(yy:Int)(a ta wa:xz!)(U:h!)(s:Yk):Prop where
 hA:Cr t s.M yy a ta wa s.W .non s.S s.kl s.ca
 g:Gd U s.S s.W
structure To(a ta wa:xz!)(s s':Yk):Prop where
 sub:∀x∈s.S++s.W,x∈s'.S++s'.W
 mv:Mv s.M (Ow a ta wa s.kl s.ca) s'.M (Ow a ta wa s'.kl s'.ca)
def To.refl{s:Yk}:To a ta wa s s:=⟨pj_,.refl⟩
def To.trans{s s1 s2:Yk}(h:To a ta wa s s1)(g:To a ta wa s1 s2):To a ta wa s s2:=⟨λx O=>g.sub x (h.sub x O),h.mv.trans g.mv⟩
variable{U:List Op}{s:Yk}{o:Op}
def c0o{x:Op}(h:Dw x.v o.v=true):x.h=o.h/\x.n=o.n:=by unfold Op.v Dw Io at h;rw[IZ,a3u]at h;unfold Io at h;rw[IZ,a3u]at h;exact⟨KD h.1,KD h.2.1⟩
def b8n{l:h!}(h:∀o∈l,DG o.d):Bp kL!=true/\Dj kL!<=40:=by
 refine⟨gP λd hd=>?_,JD (iV (n:=5) λd hd=>?_) c_⟩
 .show"#.";exact(nF (h o ho)).1
 .show"#.";exact(nF (h o ho)).2
def Hd.dg(hU:I!)(h:be_):∀o∈s.W,DG o.d:=λo ho=>(hU.h.op o (h.g.sub mR_)).dg
def Hd.eqv(hU:I!)(h:be_)(ho:a2_):∀x∈s.W,Dw x.v o.v=true↔x=o:=λx O=>by
 refine⟨λe=>hU.h.uniq (h.g.sub (.inr O)) ho (c0o e).1 (c0o e).2,λe=>?_⟩;subst e;exact qU _ (nF (h.dg hU x O)).1
def Hd.rem(hU:I!)(h:be_)(ho:o∈s.W):∃j,(f1_).findIdx? qH!=some j/\s.W[j]?=some o:=by
 have hu:=h.g.sub mR_;cases e:(f1_).findIdx? qH! with
 |none=>
  have:=List.findIdx?_eq_none_iff.mp e o.v (IE ho);rw[(h.eqv hU hu o ho).mpr rfl]at this;cases this
 |some j=>
  obtain⟨hl,B,_⟩:=OK.mp e;rw[List.getElem_map]at B;rw[IF]at hl;exact⟨j,rfl,by rw[IM hl,(h.eqv hU hu _ (JW hl)).mp B]⟩
def FI(t:Ar):WS:=Ah sN!
 (Ah sO_
 (Ah (Np 1 gs!)
 (An 2 (CP t))))
def FH:Ad->Option Bool:=fT sO!
def c9s{i:Nat}{f:e!}{x b:Int}{R:j_}(hi:ρ[i]?=some (some (.int x)))(hf:f ρ=some j5!)(k:R (.nx (ρ.set i (some (.int (x+b))))) M):Np i hU! ρ M R:=by unfold Np;rw[hi];show wl f ρ M _;rw[cO hf];exact k
def c5m{k:Int}{l:h!}{K:j_}(hU:I!)(h:be_)(ho:o∈s.W)(hn:o.n=lG!+1)
  (hK:∀s1,Hd t yy a ta wa U s1->To a ta wa s s1->s1.W.length<ib!->s1.S.length=s.S.length+1->K (.nx [o_,qI!,some (.lst ((s1.W.filter (BF s1.S)).map Op.v))]) s1.M):
  FI t ic! s.M K:=by
 have hl:=h.g.len hU;obtain⟨j,e1,e2⟩:=h.rem hU ho;have ge:=h.g.takeW hU e2 hn;have ix:f2 Ai x! B_ ic!=some o.v:=by
  show Cw qJ! 0=_;simp[Cw,Ea]
 unfold FI Ah;refine gG ?_;unfold Vt;refine eM aU_ h.hA.ob hF3 _ ?_;rw[jZ h.hA.wt];refine hV ?_;rw[cO ix,jZ h.hA.wt];obtain⟨n1,n2⟩:=b8n (h.dg hU);refine hV ⟨(nF (h.dg hU o ho)).1,n1,n2,?_⟩;show Dx ((f1_).findIdx? λx=>Dw x o.v) _;rw[e1];refine hV ?_;have ee:(f1_).eraseIdx j=(qK!).map Op.v:=by rw[OO,OO,IW,List.map_take,List.map_drop]
 show Bu _ _ (Bd s.M wa (.lst ((f1_).eraseIdx j))) _;rw[ee];obtain⟨jz,TK⟩:=h.hA.setW (W':=qK_);refine gG (oG (a:=V_) (b:=o.v) rfl ix (a0w jz a! λM2 u9 va xu mv2=>?_));have hj:=(IJ.mp e2).1;have le:=List.length_eraseIdx_of_lt hj;show Np 1 gs! ic! M2 _;refine c9s (x:=k) (b:=1) rfl rfl ?_;show An 2 (CP t) [o_,qI!,qJ_] M2 _;unfold An;refine a7g rfl rfl xu a! _ ?_;exact hK ⟨M2,qK_,s.S++[o],u9,va⟩ ⟨xu,ge.1⟩ ⟨λx O=>ge.2 x O,TK.trans mv2⟩ (by show(qK!).length<_;omega) (by show(s.S++[o]).length=_;rw[IL];rfl)
def c5n(hU:I!):∀(m:Nat) (k:Int) (s:Yk) (R:j_),ib!<=m->Hd t yy a ta wa U s->
  (∀s' d,Hd t yy a ta wa U s'->Vd s'.S s'.W->To a ta wa s s'->R (.nx [o_,qM!,d]) s'.M)->
  Bz (Da FH) (FI t) (m+1) [o_,b4_,some qN_] s.M R:=by
 intro m
 induction m with
 |zero=>
  intro k s R hm h hR;have e:s.W=[]:=OI.mp (Nat.le_zero.mp hm);unfold Bz;refine iY (b:=false) (by rw[e];rfl) _ ?_;rw[F!];have:=hR s (some qN_) h (λx O=>by rw[e]at O;cases O) .refl;simpa using this
 |succ m ih=>
  intro k s R hm h hR;cases e:s.W.filter (BF s.S)with
  |nil=>
   unfold Bz;refine iY (b:=false) rfl _ ?_;rw[F!];have:=hR s (some eu_) h (λx O z=>QG.mp e x O (LW.mpr z)) .refl;simpa using this
  |cons o l=>
   have ho:=KM.mp (show o∈s.W.filter (BF s.S)by rw[e];exact HV);have tt:FH ic!=some true:=by
    simp[FH,fT,f2,f1,Ac,Ag,Aa,fC,Bf,Kd,Cb]
    try omega
   unfold Bz;refine iY tt _ ?_;rw[j!];refine c5m hU h ho.1 (LW.mp ho.2) λs1 B vb w1 l1=>?_;refine ih R_ s1 R a! B λs' d h' ic dm=>?_;have:=hR s' d h' ic (vb.trans dm);rw[show k+1+(eF_ - lI_)=k+(eF_ - eG!)by omega];show"#D"
def rA{R:s_}(hU:I!)(h:be_)(hR:∀s',Hd t yy a ta wa U s'->Vd s'.S s'.W->To a ta wa s s'->R eG_ s'.M):Ed t [V_] s.M R:=by have hl:=h.g.len hU;refine k!;refine lL lo_ ?_;refine lL (f:=CP t) (a7g rfl rfl h.hA a!) ?_;unfold Ah;refine⟨_,c5n hU _ 0 s _ x_ h λs' d h' ic dm=>?_⟩;exact dA qP! (hR s' h' ic dm)
def a8t{kvs:h_}{ep:Nat}{fo fa fb:e!}{K:s_}(h0:hV!)(B:la!)(Y:pZ!)(hp:bG!)(hk:b0!)(hl:cN_)(hn:y∉kvs.map b_)(hK:K z (Bd M p (.dct (kvs++[(y,z)]) bI_))):Hi cH_ fC! er_ ρ M K:=by unfold Hi;rw[cO h0,cI hp];refine hV ?_;rw[cO B,cO Y,cI hp,hk];refine hV (hV qs!);rw[wY hn,iT hn];exact hK
def a9w(o:Op):Ai o.nm O!=some cq!:=by simp[Op.nm,Ai,Cw,Ea]
def GE(t:Ar):WS:=Ah go_
 (Ah sA_
 sB_)
structure Nx(yy:Int)(S:h!)(o:Op):Prop where
 f:Zg o
 y:o.h≠yy
 n:h1!<o.n
 t:lt S o.h<o.tm
def HI(t:Ar):WS:=Ah sE_
 (Ah sH!
 sG_)
def d0q{kvs:h_}{ep:Nat}{fo fi f:e!}{R:j_}(h0:hV!)(B:fi ρ=some y)(Y:f ρ=some v)(hp:bG!)(hk:b0!)(hl:cN_)(k':R aM_ hP!):Bw cH_ (wl fi) hU! ρ M R:=by unfold Bw;rw[cO Y,cO h0,cO B,hJ hp hk hl];exact k'
def b3f{M0:Mh}{e0:Nat}(hA:lJ_)(dz:M0 p=some (.dct kvs e0))(h0:M0 q=none):∀(qs:h!) (mi:h_) (ep:Nat) (y3 y4:ah!) (M:Mh) (R:j_),qQ!->(∀o∈qs,kget kvs o.nm=some o.v/\Nx yy S o)->M q=some (.dct mi ep)->
  qs.Pairwise (λx y=>x.h=y.h->x.tm<y.tm)->(∀o∈qs,∀v,kget mi cq!=some v->∃m,v=.int m/\m<o.tm)->mi.length+qs.length<1000->
  (∀M' km iz,lK!->R (.nx [o_,aj!,br_,km,iz]) M')->
  Hg J_ ab! (HI t) (qs.map Op.nm) [o_,aj!,br_,y3,y4] M R
 |[],mi,ep,y3,y4,M,R,fr,_,_,_,_,_,hR=>⟨trivial,hR M y3 y4 fr⟩
 |o::qs,mi,ep,y3,y4,M,R,fr,hk,hq,pw,ht,hl,hR=>by
  refine aL!;have iu:=hA.keep fr;have hp:=(fr p (by rw[dz];simp)).trans dz;obtain⟨hko,ho⟩:=hk o HV;rw[KL]at pw;simp only[IH]at hl;have i1:Br M G! o.nm=some o.v:=(fN (k:=lK_) hp rfl).trans hko;have i2:Br M o.v bf_=some fG_:=b8o o;refine lL (fE (fE lL! (aT (d:=o.nm) rfl) i1) A0_ i2) ?_;have ix:f2 Ai O_ B_ qR_=some cq!:=a9w o;obtain⟨m,em,hm⟩:∃m:Int,(kget mi (.int o.h)).getD (.int (lt S o.h))=.int m/\m<o.tm:=by
   cases e:kget mi cq! with
   |none=>exact⟨_,rfl,ho.t⟩
   |some v=>
    obtain⟨m,e1,e2⟩:=ht o HV v e;exact⟨m,e1,e2⟩
  have hc:Wi sG! qR_ M false:=by
   refine lH (fE (aT (d:=ky_) rfl) (vT (aT (d:=.fn q) rfl) (aT ix) (dS bK_ (aT ix) (a2p iu)) hq (k:=lu_) rfl em) ?_);show some (D.bl (decide (o.tm<=m)))=_;rw[IK a!]
  refine fL hc ?_;refine d0q (p:=q) (y:=hv!) (v:=ky_) (k:=lu_) rfl ix rfl hq rfl hk! ?_;refine b3f hA dz h0 qs _ _ (some o.nm) (some fG_) _ R (λb hb=>(qT!).trans dH_) qT_ mup_same pw.2 (λx O v hv=>?_) (by have:=kput_len mi cq! fG_;omega) hR;by_cases c:o.h=x.h
  .rw[<-c,dL]at hv;cases hv;exact⟨_,rfl,pw.1 x O c⟩
  .rw[dU λz=>c (D.int.inj z)]at hv;exact ht x bH_ v hv
def a3i{f:Op->D}{g:Op->D}:∀{l:h!},(h2!).Nodup->∀{o:Op},o∈l->kget (l.map λo=>(f o,g o)) (f o)=some (g o)
 |[],_,o,h=>by cases h
 |x::l,nd,o,h=>by
  rw[HZ,IN]at nd;rw[HZ];unfold kget;obtain rfl|h:=HQ.mp h
  .rw[j!]
  .rw[HR λz=>nd.1 (by rw[z];exact IE h),a3i nd.2 h]
def Rc(o:Op):Int×Int:=(o.h,o.n)
def b9o{x y:Op}(h:Lh (Rc x) (Rc y)=true)(e:x.h=y.h):x.n<y.n:=by simp only[Lh,CJ,Rc,e,JT,JE]at h;exact h
variable{U:List Op}{s:Yk}{o:Op}
def Gd.nx(hU:I!)(g:a3!)(ho:a2_)(hn:b4!<o.n):Nx yy S o:=by
 refine⟨hU.h.op o ho,hU.y o ho,hn,?_⟩;unfold lt;cases e:(dC_).getLast? with
 |none=>show(0:Int)<o.tm;have:=(fX!).t1;omega
 |some x=>
  have m:=kO.mp (List.mem_of_getLast? e);exact hU.h.rise Bc! ho m.2 (by have:=g.hS.le m.1;rw[m.2]at this;omega)
def a8s{kvs:h_}{ep:Nat}{fo fa fb:e!}{K:s_}(h0:hV!)(B:la!)(Y:pZ!)(hp:bG!)(hk:b0!)(hl:cN_)(hn:kget kvs y=some v)(hK:K v M):Hi cH_ fC! er_ ρ M K:=by unfold Hi;rw[cO h0,cI hp];refine hV ?_;rw[cO B,cO Y,cI hp,hk];refine hV (hV qs!);rw[hn];exact hK
structure Fs(U S dn:h!):Prop where
 u:∀o∈dn,o∈U/\b4!<o.n
 n:dn.Nodup
def Fs.nm(hU:I!){dn:h!}(h:Fs U S dn):(dn.map Rc).Nodup/\(dn.map Op.nm).Nodup:=by
 have hn:=h.n;show"!H"
 all_goals
  rw[NV]at hn ⊢;rw[PX];refine(List.Pairwise.and_mem.mp hn).imp λ{x y} u8 e=>u8.2.2 (hU.h.uniq (h.u x u8.1).1 (h.u y u8.2.1).1 ?_ ?_)
 .exact congrArg Prod.fst e
 .exact congrArg Prod.snd e
 .show"!9";exact e.1
 .show"!9";exact e.2.1
def c7y(o:Op):Ai o.nm ay_=some (.int o.n):=by simp[Op.nm,Ai,Cw,Ea]
def c3r{M0:Mh}{dn:h!}{ep:Nat}{R:j_}(hU:I!)(g:a3!)(hA:lJ_)(h0:M0 p=none)(fr:∀b,M0 b≠none->M b=M0 b)(ho:a2_)(hd:Fs U S dn)(hl:ih!<64)(hp:M p=some lP_)
  (hR:∀M' k9 ay y,Fs U S k9->k9.length<=ih!+1->M' p=some qZ_->lK!->R (.nx [o_,Q!,aj!,K_,hB_,y]) M'):
  GE t q0! M R:=by
 have iu:=hA.keep fr;obtain⟨n1,n2⟩:=nF (fX!).dg;have es:Eo O_ Ax c1_ q0!=some o.nm:=b6o o;refine lL (aT es) ?_;have B:=lH (dS (ρ:=lQ_) h3! (aT (f:=Aa 3) rfl) (pI (o:=o) iu));have h3:fT sB! q1_=some false:=by
  have:f2 Eu E_ O_ q1_=some X_:=nK n1 a!;show"!A"
 unfold Ah;by_cases c:o.n<=b4!
 .rw[IT c]at B;refine vF B ?_;obtain⟨ay,ht⟩:=iu.tk;have gs:=g.same hU ho c;have hk:o.h∈kl:=(hA.mem _).mpr λz=>by rw[z]at gs;cases gs
  have i1:Br M li_ cq!=some (.fn lv!):=(fN (k:=lu_) ht rfl).trans AZ!;have m1:=(fX!).n1;have i2:Br M (.fn lv!) (.int eB_)=some o.v:=by
   simp only[Br,iu.cl _ hk];unfold Cw Ea;rw[S_,q2_];show((dC_).map Op.v)[(eB_).toNat]?=_;rw[JG,gs];rfl
  have e2:f2 Df sy_ v_ lQ_=some (.int eB_):=by
   show(Ai o.nm ay_).bind (λz=>Df z ay_)=_;rw[c7y];rfl
  unfold An;refine fE (fE (eM aU_ iu.ob hF2) (aT (a9w o)) i1) (aT e2) i2 _ ?_;exact lM (iY h3) q4!
 .rw[IK c]at B;have Y:Wi sz! lQ_ M false:=by
   refine lH (fE (aT (d:=hv!) (a9w o)) (eM aU_ iu.ob hF1) ?_);have:(o.h==yy)=false:=KH.mpr (hU.y o ho);rw[qT,this]
  refine lM B (lM Y ?_);unfold An;by_cases z:o∈dn
  .refine a8s (p:=p) (y:=o.nm) (z:=o.v) (v:=o.v) (k:=lK_) rfl rfl rfl hp rfl cs! (a3i (lS!).2 z) ?_;exact lM (iY h3) q4!
  .have lb:Fs U S (dn++[o]):=⟨λx O=>(p8!).elim (hd.u x) λy=>by rw[IG.mp y];exact⟨ho,t_⟩,JB.mpr ⟨hd.n,G_,λx O y hy e=>z (by rw[<-IG.mp hy,<-e];exact O)⟩⟩;have xk:o.nm∉(qY_).map b_:=λz=>by
    rw[JR]at z;have nd:=(lb.nm hU).2;rw[IW,JB]at nd;exact nd.2.2 o.nm z o.nm d_ rfl
   refine a8t (p:=p) (y:=o.nm) (z:=o.v) (k:=lK_) rfl rfl rfl hp rfl cs! xk ?_;exact lM (iY h3) (hR _ (dn++[o]) bI_ _ lb (by rw[IL];exact IQ _) (by rw[mup_same,IW];rfl) λb hb=>(qT!).trans dH_)
def b2k{M0:Mh}(hU:I!)(g:a3!)(hA:lJ_)(h0:M0 p=none):∀(os dn:h!) (x1:D) (y3 y4 y5:ah!) (ep:Nat) (M:Mh) (R:j_),qQ!->q8_->Fs U S dn->ih!+V!<64->M p=some lP_->
  (∀M' k9 ay km iz ky,Fs U S k9->k9.length<64->M' p=some qZ_->lK!->R (.nx [o_,Q!,aj!,km,iz,ky]) M')->
  Hg J_ ab! (GE t) Z_ [o_,Q!,aj!,y3,y4,y5] M R
 |[],dn,x1,y3,y4,y5,ep,M,R,fr,_,hd,hl,hp,hR=>⟨trivial,hR M dn ep y3 y4 y5 hd (by simpa using hl) hp fr⟩
 |o::os,dn,x1,y3,y4,y5,ep,M,R,fr,hf,hd,hl,hp,hR=>by
  refine aL!;rw[IH]at hl;exact c3r hU g hA h0 fr (hf o HV) hd a! hp λM' k9 ay y lb l' bo v7=>b2k hU g hA h0 os k9 x1 _ _ _ ay M' R v7 (λx O=>hf x bH_) lb a! bo hR
def a9u{ms:h!}{R:s_}(hU:I!)(h:be_)(hm:lT_)(hl:ey_<32)
  (hR:∀M' p dn ep,Fs U s.S dn->ih!<64->M' p=some lP_->q9_->R G! M'):En t ik_ s.M R:=by
 have hg:=h.g.len hU;refine k!;intro p hp;have fr:∀b,s.M b≠none->Bd s.M p A_ b=s.M b:=λb hb=>mup_ne (aW hb hp);have jz:=h.hA.keep fr;unfold Ah Dd Cs;have ud:Pa (Bd s.M p A_) fV! lU!=some (.lst ((s.W++ms).map Op.v)):=by
  simp only[Pa,jz.wt];rw[IA (by simp only[IF];unfold big;omega),IW]
 refine fE (eM aU_ jz.ob hF3) (aT (d:=.lst cW_) rfl) ud _ ?_;exact b2k (p:=p) hU h.g h.hA hp (s.W++ms) [] _ none none none 0 _ _ fr (λo ho=>(lV!).elim (λz=>h.g.sub d8_) (hm o)) ⟨rc!,MY⟩ (by rw[IL];simp;omega) mup_same λM' dn ay y3 y4 y5 hd g0 g1 g2=>dA lL! (hR M' p dn ay hd g0 g1 g2)
def xT{e0:Nat}{ms:h!}{R:s_}(hU:I!)(g:a3!)(hA:aU!)(hd:Fs U S ms)(hl:ey_<64)(hp:M p=some (.dct im_ e0))
  (hR:∀M',pc!->R .non M'):Jq t [V_,.fn p] M R:=by
 refine k!;intro q hq;have qp:q≠p:=HY (aW Bg! hq);have hp1:Bd M q A_ p=some (.dct im_ e0):=(mup_ne (HY qp)).trans hp;have nn:=(lS!).2;have nk:=(lS!).1;have hN:∀o∈ms,Nx yy S o:=λo ho=>g.nx hU (hd.u o ho).1 (hd.u o ho).2;unfold Dd Cs;have vc:(in_).Perm ms:=cL ms;have hsort:Ss (Bd M q A_) [.fn p]=some (.lst ((in_).map Op.nm)):=by
  show((Ef (Bd M q A_) G!).bind λq=>(Xd hU_).map D.lst)=_;rw[cI hp1];show(Xd ((im_).map b_)).map D.lst=_;have e1:(im_).map b_=ms.map Op.nm:=by rw[JR];rfl
  have e2:(rh!).map Nn=ms.map Rc:=by rw[JR];rfl
  rw[e1];unfold Xd;rw[IA ⟨LG.mpr λd hd=>by obtain⟨o,_,rfl⟩:=IP.mp hd;rfl,by rw[e2];exact nk,vk!⟩];show some (D.lst (Jo Nn rh!))=_;rw[vG (f:=Op.nm) (k:=Rc) (k':=Nn) λo=>rfl]
 refine a5n lL! hsort _ ?_;refine b3f hA hp hq in_ [] 0 none none _ _ (λb hb=>mup_ne lw!) (λo ho=>⟨a3i nn ri_,hN o ri_⟩) mup_same ?_ (λo _ v hv=>by cases hv) (by rw[vc.length_eq];simp;omega) λM' y3 y4 h=>hR M' h;have bx:Pb Rc in_:=jQ nk;have:=List.Pairwise.and_mem.mp bx;exact this.imp λ{x y} h e=>hU.h.rise (hd.u _ (vc.mem_iff.mp h.1)).1 (hd.u _ (vc.mem_iff.mp h.2.1)).1 e (b9o (x:=x) (y:=y) h.2.2 e)
def a8d:∀{ys:b!},(∀y∈ys,y=D.bl true)->Nh ys=some rk!
 |[],_=>rfl
 |y::ys,h=>by
  rw[h y HV];show(Nh ys).map (true::·)=_;rw[a8d λx O=>h x bH_];rfl
def a4k{f:e!}(h:cl!):Ac f Ag ρ=some [d]:=by unfold Ac;rw[h];rfl
def c9v{f g k:e!}{a:D}(B:k6!)(Y:k6_)(h3:k ρ=some c):Ac f z0! ρ=some eE!:=by unfold Ac;rw[B,Y,h3];rfl
def xM{g:ai!}{fs:as_}(h:ho!):f1 g fs ρ=g ds:=by unfold f1;rw[h];rfl
def c5p{ms:h!}(nd:t.nd)(hH:∀o∈ms,Zg o)(hl:ey_<64):Cu sJ! io_=some false:=by
 obtain⟨ys,e,_,L⟩:=mT (ρ:=dq_) (bnd:=Bm 0) (ft:=oC_) (fe:=f1 (Cc t) a4_) (λy=>y=D.bl true) cW_ (by
  intro d hd;obtain⟨o,ho,rfl⟩:=IP.mp hd;exact⟨[K_],true,rfl,rfl,λ_=>⟨dM!,d0y nd (hH o ho),rfl⟩⟩)
 have hc:Fa 1 [] dS_ J! a6! sJ_ io_=some ba!:=by
  show(if(cW_).length<=big then Option.map D.lst (Ej _ _ _ dq_ cW_)else none)=_;rw[IA cs!,e];rfl
 have ha:f1 Rk (Ac mF_ Ag) io_=some C!:=by
  have B:Ac mF_ Ag io_=some [.lst ys]:=by
   exact a4k hc
  rw[xM B];show(Nh ys).map (λbs=>D.bl om_)=_;rw[a8d L];show some (D.bl ((rk!).all id))=_;rw[LG.mpr λx O=>by obtain⟨_,_,rfl⟩:=IP.mp O;rfl]
 unfold Cu fT;rw[ha];rfl
def sT{ms:h!}{R:s_}(nd:t.nd)(hU:I!)(h:be_)(hm:lT_)(hl:ey_<32)(hR:∀M',q9_->R .non M'):Fk t ik_ s.M R:=by refine k!;refine fL (iY (c5p nd (λo ho=>hU.h.op o (hm o ho)) a!)) ?_;refine gG ?_;have hn:∀K:D->Mh->Prop,En t ik_ s.M K->Am 2 (En t) c8! [o_,io!] s.M K:=λK h=>oG rfl rfl h;refine hn _ (a9u hU h hm hl λM1 p dn ep hd l0 hp fr=>k!);exact xT hU h.g (h.hA.keep fr) hd l0 hp λM' ik=>hR M' λb hb=>(ik b (by rw[fr b hb];exact hb)).trans dH_
def c4h(hU:I!)(h:be_)(ho:a2_):Hs false s.M o.v fV!=some rn_:=by
 obtain⟨n1,n2⟩:=b8n (h.dg hU);have e:Hs false s.M o.v fV!=Hs.inS false s.M o.v fV!:=by simp only[Hs,h.hA.wt]
 rw[e];unfold Hs.inS;simp only[Pq,h.hA.wt,LX];rw[(nF (fX!).dg).1,n1,IT n2];rw[Bool.true_and,Bool.true_and,j!,F!];congr 2;by_cases c:o∈s.W
 .rw[IT c];exact List.any_eq_true.mpr ⟨o.v,IE c,(h.eqv hU ho o c).mpr rfl⟩
 .rw[IK c];refine List.any_eq_false.mpr λd hd z=>?_;obtain⟨x,O,rfl⟩:=IP.mp hd;exact c ((h.eqv hU ho x O).mp z▸O)
def b4i{R:j_}(hU:I!)(h:be_)(nn:iq!)(ho:a2_)(hR:∀s',Hd t yy a ta wa U s'->Vd s'.S s'.W->To a ta wa s s'->o∈s'.S++s'.W->R (.rt eG_) s'.M):Sg t eK_ s.M R:=by
 have hl:=h.g.len hU;show Ah sQ! _ eK_ s.M _;have O:=lH (dS (ρ:=eK_) h3! lD_ (xF (o:=o) h.hA));by_cases c:o.n=lG!+1
 .rw[LW.mpr c]at O;have hw:o∉s.W:=λz=>nn o z c;unfold Ah;refine vF O ?_;refine gG (oG rfl rfl (a0w h.hA a! λM' xr xt iu mv=>?_));show Ay sP_ eK_ M' _;unfold Ay w2;rw[cO (f:=fC ay_) (d:=.int 1) rfl];refine a8b (a:=V_) rfl (rA (s:=⟨M',s.W,s.S++[o],xr,xt⟩) hU ⟨iu,h.g.take hU ho c hw⟩ λs' h' ic dm=>?_);have e:Pa s'.M ay_ (.int rq_)=some eG_:=by
   show some (D.int (1+rq_))=_;rw[IL,KU,show(1:Int)+(eF_ - ((s.S.length+1:Nat)))=eF_ - eG! by omega]
  show"#+";rw[e];exact hR s' h' ic ⟨λx O=>dm.sub x (by obtain z|z:=HU.mp O<;>simp[z]),mv.trans dm.mv⟩ (dm.sub o d_)
 .rw[KH.mpr c]at O;refine fL O ?_;have ht:=lH (dS (ρ:=eK_) h3! lD_ (pI (o:=o) h.hA));have stay:∀y,o∈s.S++s.W->Ay aI_ [o_,K_,y] s.M R:=λy hm=>dA lo_ (by have:=hR s h nn .refl hm;rw[Int.sub_self]at this;exact this);have XO:o∈s.S++s.W->Ah sU_ (Ay aI_) [o_,K_,some C!] s.M R:=λhm=>by
   refine fL hQ_ (stay _ hm);unfold Fo;refine iY (b:=false) rfl _ ?_;rw[F!];exact hK
  by_cases d:o.n<=lG!
  .rw[IT d]at ht;refine lL (d:=dM!) hQ_ (XO (IS _ (kO.mp (NW (h.g.same hU ho d))).1));unfold Sq;refine ht _ ?_;rw[j!];exact hK
  .rw[IK d]at ht;have iw:=c4h hU h ho;have hs:Pu sQ_ eK_ s.M rn_:=λK hK=>by
    unfold Sq;refine ht _ ?_;rw[F!];exact fE (aT (d:=o.v) rfl) rt! iw _ hK
   refine lL hs ?_;by_cases z:o∈s.W
   .rw[IT z];exact XO iI_
   .rw[IK z];have cap:=h.g.cap hU ho a! z nn;show Ah (Aq _ _ _) _ [o_,K_,some X_] s.M _;unfold Ah;have hl8:Uq s.M [.fn wa]=some (.int (ib!:Nat)):=by
     show((Pq s.M fV!).map λxs=>D.int k_)=_;simp only[Pq,h.hA.wt,OH,IF]
    refine vF hQ_ ?_
    .unfold Fo;refine iY (b:=true) rfl _ ?_;rw[j!];refine lH (fE (a5n rt! hl8) (aT (d:=.int 8) rfl) (d:=dM!) ?_) K hK;show some (D.bl (decide (((ib!:Nat):Int)<8)))=_;rw[IT a!]
    .obtain⟨jz,TK⟩:=h.hA.setW (W':=s.W++[o]);refine b1m (q:=Ay aI_) (eM aU_ h.hA.ob hF3 _ (xW (v:=o.v) h.hA.wt rfl cs! ?_));rw[show s.W.map Op.v++du_=(l4_).map Op.v by rw[IW];rfl];refine dA lo_ ?_;have:=hR ⟨Bd s.M wa (.lst ((l4_).map Op.v)),s.W++[o],s.S,s.kl,s.ca⟩ ⟨jz,h.g.wait ho a! z⟩ (λx O=>?_) ⟨λx O=>by show x∈s.S++l4_;rw[<-JL];exact IS _ O,TK⟩ d_
     .rw[Int.sub_self]at this;show"#D"
     .obtain y|y:=HU.mp O
      .exact nn x y
      .rw[IG.mp y];exact c
def a9f{R:s_}(hU:I!)(h:be_)(nn:iq!)(ho:a2_)(hR:∀s',Hd t yy a ta wa U s'->Vd s'.S s'.W->To a ta wa s s'->o∈s'.S++s'.W->R eG_ s'.M):Ke t lm_ s.M R:=⟨rfl,b4i hU h nn ho hR⟩
def ED(t:Ar):WS:=Np 2 sX!
def b1g(hU:I!):∀(os:h!) (x1:D) (k:Int) (y:ah!) (s:Yk) (R:j_),Hd t yy a ta wa U s->Vd s.S s.W->q8_->
  (∀s' y',Hd t yy a ta wa U s'->Vd s'.S s'.W->To a ta wa s s'->(∀o∈os,o∈s'.S++s'.W)->R (.nx [o_,Q!,qM!,y']) s'.M)->
  Hg J_ ab! (ED t) Z_ [o_,Q!,b4_,y] s.M R
 |[],x1,k,y,s,R,h,nn,_,hR=>⟨trivial,by
  have:=hR s y h nn .refl λo ho=>by cases ho
  simpa using this⟩
 |o::os,x1,k,y,s,R,h,nn,hm,hR=>by
  refine aL!;show Am 2 (Ke t) dS! [o_,Q!,b4_,K_] s.M _;refine oG rfl rfl (a9f hU h nn (hm o HV) λs1 B nn1 vb m1=>?_);refine b1g hU os x1 (k+((s1.S.length:Nat) - lI!)) hy! s1 R B nn1 (λx O=>hm x bH_) λs2 y2 Y TL rf m2=>?_;have:=hR s2 y2 Y TL (vb.trans rf) λx O=>(HQ.mp O).elim (λz=>rf.sub x (z▸m1)) (m2 x);rw[show k+(lI_ - eG!)+(rx_ - lI_)=k+(rx_ - eG!:Int)by omega];show"#D"
def c2f{ms:h!}{R:s_}(nd:t.nd)(hU:I!)(h:be_)(nn:iq!)(hm:lT_)(hl:ey_<32)(hR:∀s',Hd t yy a ta wa U s'->Vd s'.S s'.W->To a ta wa s s'->(∀o∈ms,o∈s'.S++s'.W)->R eG_ s'.M):Tf t ik_ s.M R:=by refine k!;show Ah sW! (Ah (An 2 aI_) (Ah (Dd (Jg dS_) J_ (ED t)) eS_)) [o_,io!,none,none] s.M _;unfold Ah;refine gG (oG rfl rfl (sT nd hU h hm hl λM1 fr=>?_));refine aT (f:=fC O!) (d:=bF_) rfl _ ?_;show Dd (Jg dS_) J_ (ED t) rA! M1 _;have hi:Ey u_ rA!=some cW_:=uS rfl;unfold Dd Jg;rw[hi];refine b1g hU ms _ 0 none ⟨M1,s.W,s.S,s.kl,s.ca⟩ _ ⟨h.hA.keep fr,h.g⟩ nn hm λs' y' h' ic dm m'=>?_;exact dA qP! (hR s' h' ic ⟨dm.sub,(Mv.of fr).trans dm.mv⟩ m')
end
def c3i{α:Type}(p q:α->Bool)(l:N_)(h:∀x∈l,¬(p x=true/\q x=true)):(l.filter p++l.filter q).Perm rA_:=by
 have B:=List.filter_append_perm p rA_;rw[RC,RC]at B;have e1:(l.filter λx=>p x&&(p x||q x))=l.filter p:=NQ λx _=>by cases p x<;>simp
 have e2:(l.filter λx=>(!p x)&&(p x||q x))=l.filter q:=NQ λx O=>by
  have:=h x O;cases c:p x<;>cases d:q x<;>simp_all
 rw[e1,e2]at B;exact B
def a0e{S:h!}:∀{kl:z!},kl.Nodup->(l8!).Perm (S.filter λo=>decide (o.h∈kl))
 |[],_=>by simp
 |k::kl,nd=>by
  rw[IN]at nd;rw[List.flatMap_cons];refine((a0e nd.2).append_left _).trans ?_;refine(c3i (λo:Op=>decide (o.h=k)) (λo=>decide (o.h∈kl)) S λx _ z=>?_).trans (RZ (NQ λx _=>by simp[HQ]));simp only[JE]at z;exact nd.1 (z.1▸z.2)
section
variable{t:Ar}{M:Mh}{ρ:Ad}{yy:Int}{a ta wa:xz!}{Wt:List Op}{out:D}{S:List Op}{kl:List Int}{ca:Int->Addr}
def Cr.perm(hA:aU!):(l8!).Perm S:=by refine(a0e hA.nk).trans (RZ (KR.mpr λo ho=>?_));rw[JE,hA.mem];intro z;have:o∈hs S o.h:=kO.mpr ⟨ho,rfl⟩;rw[z]at this;cases this
def FJ(t:Ar):WS:=Xb 1 mw_
def b3m{ck:bJ!}(hA:aU!)(ez:ck M)(hS:eA!<64):∀(ks:z!) (acc:h!) (y:ah!) (R:j_),(∀h∈ks,h∈kl)->cO_+64*kA_<100000->
  (∀y',R (.nx [o_,some (.lst ((acc++ks.flatMap (hs S)).map Op.v)),y']) M)->
  Hg bO! ck (FJ t) (ks.map D.int) [o_,hI_,y] M R
 |[],acc,y,R,_,_,hR=>⟨ez,by have:=hR y;simpa using this⟩
 |h::ks,acc,y,R,hk,hl,hR=>by
  refine oY!;obtain⟨ep,ht⟩:=hA.tk;have hh:=hk h HV;show FJ t [o_,hI_,ln_] M _;show Xb 1 mw_ [o_,hI_,ln_] M _;unfold Xb;have i1:Br M li_ h2_=some ll!:=(AY_).trans (by rw[fW,IA hh]);refine fE h0_ ll_ i1 _ ?_;rw[jZ lk_];refine hV ?_;have TJ:(fV_).length<64:=MB (xK S h) hS;simp only[IH]at hl;refine⟨by simp only[IF];unfold big;omega,?_⟩;rw[<-IW];refine b3m hA ez hS ks (acc++hs S h) (some h2_) R qT_ wq! λy'=>?_;have:=hR y';rw[List.flatMap_cons,<-JL]at this;show"#D"
def a4j(hA:aU!)(hH:Fx S)(hS:eA!<64):Tk (Ga t) [V_] M (.lst l9_):=λK hK=>by
 obtain⟨ep,ht⟩:=hA.tk;refine k!;show Ah (Dd (Pf dQ_) bO! (FJ t)) sq! [o_,hJ!,none] M _;unfold Ah Dd Pf;refine eM aU_ hA.ob hF2 _ ?_;rw[cI ht];refine hV ?_;have hkl:qg!<64:=MB hA.len hS;have ek:(h0!).map b_=kl.map D.int:=by rw[JR];rfl
 rw[ek];refine b3m hA ht hS kl [] none _ (λh hh=>hh) bN! λy'=>?_;have hp:=hA.perm;have nd:((l8!).map Op.key).Nodup:=(kK!).nodup_iff.mpr hH.keys;have he:f1 Dq c3_ [o_,some (.lst rD!),y']=some (.lst l9_):=by
  show Dq [.lst rD!]=_;rw[KZ,mO nd rE!,lN hp nd]
 exact dA (aT he) hK
structure OS(t:Ar)(M:Mh)(a o:xz!)(rl:bU!)(W:OW):Prop where
 hob:∃yy ta wa,M a=some ma_
 out:Ce t M o rl W 1500
def c3h{R:s_}(hA:rF!)(hH:Fx S)(hS:eA!<64)(L:Ww W0 rF_ W')
  (hR:∀M' o ae,OS t M' a o ae W'->rG!->R ag! M'):Dk t [V_] M R:=by
 refine k!;show Ah ss_ (Ay mx_) [o_] M _;unfold Ah;refine vF (lH (fE (eM aU_ hA.ob hF4) rH! rfl)) ?_;refine uH ?_;have hp:(Ju S).Perm S:=cL S;have hc:∀K:D->Mh->Prop,Kf t [.lst l9_] M K->Am 1 (Kf t) ss! [o_] M K:=λK h=>by
  show Am 1 (Ga t) bi! [o_] M _;exact pQ bK_ (a4j hA hH hS) _ bn!
 refine hc _ (b4m (W':=W') ((kK!).nodup_iff.mpr hH.keys) ((kK!).nodup_iff.mpr hH.names) rE! (λo ho=>(hH.op o (hp.mem_iff.mp ho)).dg) (by rw[b6n hH.keys];exact L) λo M1 ae ho hO hw fr=>?_);have fa:=fr a lk!;refine kD (fs:=hF yy ta wa .non) rfl (fa.1.trans hA.ob) qt! hP5 ?_;have Y:Ce t (Bd M1 a ma_) o ae W' 1500:=hO.keep λc hc=>mup_ne λz=>hc (by rw[z];exact fa.2);have k:∀b,M b≠none->b≠a->Bd M1 a ma_ b=M b:=λb hb hn=>(mup_ne hn).trans (dH_).1;exact dA (eM aU_ mup_same hF4) (hR _ o ae ⟨⟨yy,ta,wa,mup_same⟩,Y⟩ k)
variable{o:xz!}{rl:Addr->Pc}{W:OW}{x:D}
def uL(h:bg_):Tk (Dk t) [V_] M ag!:=λK hK=>by
 obtain⟨yy,ta,wa,hob⟩:=h.hob;refine k!;refine fL (lH (fE rJ! rH! rfl)) ?_;exact dA rJ! hK
def OS.nob(h:bg_)(hm:∀{a1 a2 a3 a4 a5 a6:xz!},(Y_).lookup m=none):Dg t.B4 m M ag!:=by obtain⟨_,_,_,_,_,_,_,_,_,_,_,_,hA⟩:=h.out;exact hA.noOb hm
def c2c(h:bg_)(hk:aT!):Tk gH_ dN! M rJ_:=λK hK=>by
 refine k!;exact dA (eJ mc_ (h.nob oM1) bh! λK hK=>xL h.out hk hK) hK
def c2d{R:s_}{Q:bJ!}(TM:rK!)(hk:aT!)(hR:∀M' o rl,OS t M' a o rl W->Q M'->R rJ_ M'):Jl t dN! M R:=by refine k!;show Ay s2! [o_,bE_] M _;unfold Ay Ba;refine a8b (a:=V_) rfl (TM _ λM' o rl h hQ=>⟨h.nob oM1,?_⟩);unfold Ab Af;rw[cO (f:=Aa 1) (d:=x) rfl];exact⟨rfl,xL h.out hk (hR M' o rl h hQ)⟩
def c1x(h:bg_)(hk:aT!)(O:cC!):Tk (Jd t) dN! M ag!:=λK hK=>by
 refine k!;refine lL mc_ ?_;refine fL (b7l (lH (b:=true) (eJ iy_ (h.nob oM1) bh! λK hK=>xL h.out hk rL!))) ?_;exact dA iy_ hK
def uZ(h:bg_)(hk:aT!)(O:a0!):Tk (Cp t) dN! M ag!:=λK hK=>by
 refine k!;refine lL mc_ ?_;refine fL (b7l (lH (b:=true) (eJ iy_ (h.nob oM2) bh! λK hK=>hW h.out hk rL!))) ?_;exact dA iy_ hK
def b0v(h:bg_)(wi:By W)(hk:aT!)(O:cC!):Tk (Je t) dN! M d9_:=λK hK=>by
 refine k!;exact dA (eJ (dS bK_ bh! (c1x h hk O)) (h.nob d2m) bh! λK hK=>xS h.out wi c_ O hK) hK
def b8m(h:bg_)(hk:aT!)(O:a0!)(hp:jG!):Tk (Oe t) dN! M p:=λK hK=>by
 refine k!;exact dA (eJ rM_ (h.nob d2n) bh! λK hK=>a1s h.out hk hp hK) hK
def c6v(h:bg_)(wi:By W)(hk:aT!)(O:a0!)(hj:o0!):Tk (Te t) dN! M v:=λK hK=>by
 refine k!;exact dA (eJ rM_ (h.nob d2k) bh! λK hK=>a8q h.out wi O c_ hj hK) hK
def c2i{f:ad!}{q2:WS}{R:j_}(h:f ρ=some false)(k:fw!):Ah (Aq (Da f) Gz Bq) q2 ρ M R:=fL (iY h) k
def b7v{i:Nat}(hi:i<4):Dy [fr!]=some C!:=b3c a! a!
def b8y{i:Nat}(h:bg_)(wi:By W)(hk:aT!)(O:a0!)(hi:i<4)(hv:bT![i]?=some v):Tk (Mb t) [V_,x,fr!] M v:=λK hK=>by
 refine k!;have hn:Tk (Ep t) [V_,x,fr!] M ag!:=λK hK=>by
  refine k!;show Ah s1! (Ay iR_) eP! M _;have hp:Cu s0_ eP!=some false:=by
   have:f1 Dy b9! eP!=some C!:=(xM (a4k (f:=Aa 2) (d:=fr!) rfl)).trans (b7v hi);unfold Cu fT;rw[this];rfl
  have f0:Aa 0 eP!=some ci_:=rfl;have me:Aa 1 eP!=some x:=rfl;generalize eP!=env at hp f0 me ⊢;exact c2i hp (dA (dS (aT f0) (aT me) (uZ h hk O)) hK)
 have qc:Br M fe! gf_=some v:=by
  show Cw bT! aG_=_;unfold Cw Ea;rw[S_,IA (by rw[wi.nl x O];omega)];simpa using hv
 exact dA (fE (eJ (a5o bK_ bh! me_ hn) (h.nob d2j) bh! λK hK=>yJ h.out wi O hK) me_ qc) hK
end
def Ux(W:OW):Prop:=∀x∈W.its,∀d∈W.num x,∃i:Int,d=.int i
def b8z{W:OW}(h:Ux W)(hs:pX!):Ux W':=by
 cases hs with
 |put _ _ _=>
  intro x O e he;have cm:e∈vw!:=he;by_cases c:x=n
  .rw[IA c]at cm;simp only[HQ,JI,LB]at cm;exact⟨0,by obtain z|z|z|z:=cm<;>exact z⟩
  .rw[HR c]at cm;have qc:x∈W.its++[n]:=O;exact h x ((HU.mp qc).resolve_right λz=>c p3_) e cm
 |mvY _ _ _ _ _=>exact h
 |mvN _ _ _ _=>exact h
 |drY _ _ _=>exact h
 |drN _ _=>exact h
 |wrt _ _ _ _=>split;exact h;exact h
 |cut _ _ _ _=>split;exact h;exact h
 |@set a p v _ _ _=>
  split
  .intro x O e he;have cm:e∈(if x=a then(oM!).set p.toNat (.int v)else W.num x):=he;by_cases c:x=a
   .rw[IA c]at cm;obtain z|z:=List.mem_or_eq_of_mem_set cm
    .exact h a (c▸O) e z
    .exact⟨v,z⟩
   .rw[HR c]at cm;exact h x O e cm
  .exact h
def b9a{W:OW}{os:h!}(L:Ww W os W'):Ux W->Ux W':=by
 induction L with
 |nil=>exact id
 |cons hs _ ih=>exact λh=>ih (b8z h hs)
def c4c{W W':OW}(hs:pX!):∀x∈W'.its,x∈W.its\/x=n:=by
 cases hs with
 |put _ _ _=>
  intro x O;have qc:x∈W.its++[n]:=O;exact(HU.mp qc).imp id IG.mp
 |mvY _ _ _ _ _=>exact λx O=>.inl O
 |mvN _ _ _ _=>exact λx O=>.inl O
 |drY _ _ _=>exact λx O=>.inl O
 |drN _ _=>exact λx O=>.inl O
 |wrt _ _ _ _=>split;exact λx O=>.inl O;exact λx O=>.inl O
 |cut _ _ _ _=>split;exact λx O=>.inl O;exact λx O=>.inl O
 |set _ _ _=>split;exact λx O=>.inl O;exact λx O=>.inl O
def c4d{W W':OW}{os:h!}(L:Ww W os W'):∀x∈W'.its,x∈W.its\/∃o∈os,x=o.nm:=by
 induction L with
 |nil=>exact λx O=>.inl O
 |cons hs _ ih=>
  intro x O;obtain z|⟨o,ho,z⟩:=ih x O
  .obtain z|z:=c4c hs x z
   .exact cB!
   .exact .inr ⟨_,HV,z⟩
  .exact .inr ⟨o,HP _ ho,z⟩
section
variable{t:Ar}{M:Mh}{ρ:Ad}{a w:xz!}{W:OW}{o:xz!}{rl:Addr->Pc}{ak:Addr->LR}{x:D}
def b5y(wi:By W){x:D}:Bh d9_=true/\Ij d9_<=40:=by
 have h:∀d∈chl W.rows x,Sd d:=λd hd=>(kI wi dx_ (gU.mp hd)).1.sd;show"!H"
 .show Bp gX!=true;exact gP λd hd=>eB (h d hd)
 .show Dj gX!+1<=40;have:=iV (n:=5) λd hd=>jM (h d hd);omega
def FO(ft:WT)(q1 q2:WS)(ρ:Ad)(R:j_)(d:D)(M:Mh):Prop:=match d with
 |.bl b=>(if b then(if true then q1 ρ M R else q2 ρ M R)else ft ρ M λb M1=>if b then q1 ρ M1 R else q2 ρ M1 R)
 |_=>False
def b2y{fa:WE}{ft:WT}{q1 q2:WS}{R:j_}(h:fa ρ M (FO ft q1 q2 ρ R)):Aq (Wk (wT fa) ft) q1 q2 ρ M R:=h
def d0w{ft:WT}{q1 q2:WS}{R:j_}(h:qd!)(k:fw!):FO ft q1 q2 ρ R X_ M:=by show rS_;rw[F!];refine h _ ?_;rw[F!];exact k
def FL(g:bs_)(fb:e!)(ρ:Ad)(K:s_)(x:D)(M:Mh):Prop:=wl fb ρ M λy M2=>match g M2 x y with|some d=>K d M2|none=>False
def c6p{g:bs_}{fo:WE}{fb:e!}{K:s_}(h:fo ρ M (FL g fb ρ K)):w2 g fo er_ ρ M K:=h
def a8n{g:bs_}{fb:e!}{K:s_}{x:D}(hb:k3_)(hg:AP_)(k:K d M):FL g fb ρ K x M:=by unfold FL;rw[cO hb,hg];exact k
def AG(t:Ar):WS:=Aq uo_ db_ Bq
def b1p{Q:bJ!}{R:j_}(TM:rK!)(hQ:∀M',Q M'->Bt M' w ak W)(wi:By W)(hl:fJ_)(hk:aT!)(O:cC!)
  (hR:∀M' o rl,OS t M' a o rl W->Q M'->R (.nx b7_) M'):AG t b7_ M R:=by
 refine b2y (c6p (oG (a:=V_) (b:=x) rfl rfl (c2d TM hk λM' o rl h q=>?_)));have hL:=hQ M' q;have Y:Wi uo! b7_ M' false:=by
  refine lH (fE (dS bK_ bh! (b0v h wi hk O)) (dS eQ! bh! λK hK=>a4l hL wi (a3p wi O) hl hK) ?_);show Eu d9_ d9_=_;obtain⟨n1,n2⟩:=b5y wi (x:=x);exact nK n1 n2
 refine a8n (y:=dM!) (d:=iu!) rfl ?_ (d0w Y (hR M' o rl h q));rw[IT O];rfl
def b1q(h:bg_)(hL:iC!)(wi:By W)(hl:fJ_):∀(xs:b!) (y:ah!) (R:j_),(∀x∈xs,Ft W x)->rU_->Hg J_ ab! (AG t) xs [o_,Q!,A!,y] M R
 |[],y,R,_,hR=>⟨trivial,hR y⟩
 |x::xs,y,R,O,hR=>by
  refine aL!;obtain⟨k,hk⟩:=qN wi (O x HV);show AG t b7_ M _;refine b1p (Q:=λM'=>M'=M) (λK hK=>uL h _ (hK M o rl h rfl)) (λM' e=>by rw[e];exact hL) wi hl hk (O x HV) λM' o' ae h' e=>?_;have e':M'=M:=e;rw[e'];exact b1q h hL wi hl xs gh! R rV_ hR
def c2u{f:WE}(h:lh_):Pu (Xa (Ab f Af)) ρ M (.lst [d]):=λK hK=>by
 unfold Xa Ab Af;exact h _ ⟨by show 1<=1000;decide,hK⟩
def c2t{f g:WE}(h:lh_)(Y:Pu g ρ M e):Pu (Tr (Ab f (Ab g Af))) ρ M (.tup [d,e]):=λK hK=>by
 unfold Tr Ab Af;exact h _ (Y _ ⟨by show 2<=1000;decide,hK⟩)
def b4h(O:Sd x)(hp:Sd p):Bh mi!=true/\Ij mi!<=40:=by
 have d1:=jM O;have d2:=jM hp;show"!H"
 .show Bp mi_=true;refine gP λd hd=>?_;rw[IG.mp hd];show Bp [x,p]=true;refine gP λd hd=>?_;simp only[HQ,JI,LB]at hd;obtain rfl|rfl:=hd
  .exact eB O
  .exact eB hp
 .have B:Dj [x,p]<=5:=iV λd hd=>by
   simp only[HQ,JI,LB]at hd;obtain rfl|rfl:=hd
   .exact d1
   .exact d2
  have Y:Dj mi_<=6:=iV λd hd=>by
   rw[IG.mp hd];show Dj [x,p]+1<=6;omega
  show Dj mi_+1<=40;omega
def b4g(hL:iC!)(wi:By W)(hl:fJ_)(O:a0!)(hp:jG!):
  Pu uq! b7_ M mi!:=λK hK=>by
 obtain⟨wt,wn,qa,hA⟩:=hL;obtain⟨e,hw⟩:=hA.mw;unfold Ca Cs;have i1:Br M bt_ dZ_=some (.lst fI!):=(fN (k:=zD!) hw rfl).trans k3r;refine fE eQ! (aT (d:=.str "rows") rfl) i1 _ ?_;refine p4!;refine cR (λd=>match d with|.tup [i,_]=>decide (i=x)|_=>false) id trivial _ _ bI! ?_
 .show"!=";show"#6";refine pz_
  .have e1:fT i4! cO!=some k0!:=by
    have:f2 Aw aI! u_ cO!=some (.bl k0!):=by
     show zH!;rw[uR];exact nQ B.sd (wi.nm x O).sd
    show"!A"
   unfold Da;rw[e1];exact hK
  .rw[cO (f:=Aa 0) (d:=Bg q) rfl];exact hK
 .have e2:(((fI!).filter λd=>match d with|.tup [i,_]=>decide (i=x)|_=>false).map id)=[.tup [x,p]]:=by
   rw[QV,NJ];show(kZ_).map Bg=_;rw[b3n wi hp];rfl
  rw[e2];exact hK
def b5g(h:bg_)(wi:By W)(hk:aT!)(O:a0!):
  Pu ur_ b7_ M fe!:=λK hK=>by
 have hi:Em c3! b7_=some r0!:=mZ (n:=4) rfl c_;unfold Ca Jg;rw[hi];refine⟨by simp[big],?_⟩;have hl:=wi.nl x O;refine cR fx_ (λd=>match d with|.int i=>(bT!).getD i.toNat .non|_=>.non) trivial _ _ bI! ?_
 .obtain⟨i,hi,rfl⟩:=IP.mp hd;have c8:=NY.mp hi;refine⟨[some gf_,o_,bE_],rfl,hu!,ep_⟩;have hv:bT![i]?=some ((bT!).getD i .non):=by
   rw[List.getD_eq_getElem?_getD,IM a!];rfl
  exact a5o bK_ bh! me_ (b8y h wi hk O c8 hv) _ hK
 .have e2:(((r0!).filter λ_=>true).map λd=>match d with|.int i=>(bT!).getD i.toNat .non|_=>.non)=W.num x:=by
   rw[hu_,JR]
   match hh:W.num x,hl with
   |[a,b,c,d],_=>rfl
  rw[e2];exact hK
def b5h(hn:Ux W)(O:a0!):Bh fe!=true/\Ij fe!<=40:=by
 have h:=hn x O;show"!H"
 .show Bp bT!=true;exact gP λd hd=>by obtain⟨i,rfl⟩:=h d hd;rfl
 .show Dj bT!+1<=40;have:=iV (n:=0) (ds:=W.num x) λd hd=>by obtain⟨i,rfl⟩:=h d hd;exact IQ _
  omega
def BE(t:Ar):WS:=(Ah up_
 (Ah uq_
 us_))
def c2p{R:j_}(h:bg_)(hL:iC!)(hw:fv!)(a7:Sm W 1500)(hn:Ux W)(O:a0!)(hR:R (.nx b7_) M):BE t b7_ M R:=by
 have wi:=hw.inv;obtain⟨k,hk⟩:=(wi.nm x O).key;have l1:=a7.rows;have l2:=a7.txt x;obtain⟨s,hj⟩:=c0a hw O a!;obtain⟨q,hq,e⟩:=IP.mp ((wi.ri x).mpr O);obtain⟨q1,p⟩:=q;have e':q1=x:=e;subst e';obtain⟨_,sp,_⟩:=kI wi _ hq;refine fL ?_ ?_
 .refine lH (fE (dS bK_ gl! (c6v h wi hk O hj)) (dS eQ! gl! λK hK=>xX hL O hk a! hj hK) ?_);show Eu aE_ aE_=_;exact nK rfl (by show 0<=40;decide)
 refine fL ?_ ?_
 .refine lH (fE (c2u (c2t gl! (dS bK_ gl! (b8m h hk O hq)))) (b4g hL wi a! O hq) ?_);show Eu r4! r4!=_;obtain⟨n1,n2⟩:=b4h (wi.nm q1 O).sd sp;exact nK n1 n2
 refine lM ?_ hR;obtain⟨wt,wn,qa,hA⟩:=id hL;obtain⟨e0,XQ⟩:=hA.mw;obtain⟨e1,hn1⟩:=hA.mn;obtain⟨hq1,_⟩:=hA.mq q1 O;have i1:Br M bt_ m5_=some ev_:=(fN (k:=some (.inl (.inr "numbers"))) XQ rfl).trans k3n;have i2:Br M ev_ q1=some ml_:=(fN hn1 hk).trans (by rw[mL,IA O]);refine lH (fE (b5g h wi hk O) (fE (fE eQ! (aT (d:=Au!) rfl) i1) gl! i2) ?_);have:Vg M ml_=.lst (W.num q1):=by simp only[Vg,hq1]
 show Eu (.lst (W.num q1)) (Vg M ml_)=_;rw[this];obtain⟨n1,n2⟩:=b5h hn O;exact nK n1 n2
def b1o{ck:bJ!}(ez:ck M)(h:bg_)(hL:iC!)(hw:fv!)(a7:Sm W 1500)(hn:Ux W):∀(xs:b!) (y:ah!) (R:j_),(∀x∈xs,x∈W.its)->rU_->Hg J_ ck (BE t) xs [o_,Q!,A!,y] M R
 |[],y,R,_,hR=>⟨ez,hR y⟩
 |x::xs,y,R,O,hR=>by
  refine oY!;show BE t b7_ M _;refine c2p h hL hw a7 hn (O x HV) ?_;exact b1o ez h hL hw a7 hn xs gh! R rV_ hR
def a9h:Uh t=Ah nf!
 (Ah (Dd un_ J_ (AG t))
 (Ah (Dd (Pf nf_) J_ (BE t))
 ut!)):=rfl
def a0x{yy:Int}{Wt:h!}{S ops:h!}{kl:z!}{ca:qf_}{R:s_}(hA:rF!)(hS:Fx S)(hO:Fx ops)(hp:S.Perm ops)(hl:dv!)(hR:∀M',rG!->R C! M'):Kj t [V_,hw!] M R:=by
 have TJ:eA!<64:=by rw[hp.length_eq];exact hl
 have es:Ju S=Ju ops:=lN hp hS.keys;have la:M a≠none:=by rw[hA.ob];simp
 refine k!;rw[a9h];show Ah nf! _ [o_,bZ_,none,none] M _;unfold Ah An;refine a8b (a:=hw!) rfl (c1u hO.keys hO.names hl (λo ho=>(hO.op o ho).dg) λw M1 dh W XQ L hL hw a7 fr=>?_);obtain⟨pre,hw⟩:=hw;have wi:=hw.inv;have l1:=a7.rows;have l2:=a7.its;have ra:dh a=.oth:=(fr a la).2;have jz:=hA.keep λb hb=>(dH_).1;have ql:Ww W0 rF_ W:=by rw[es];exact L
 have hn:Ux W:=b9a L λx O=>by cases O
 obtain⟨wt,wn,qa,XR⟩:=id hL;obtain⟨e0,hw0'⟩:=XR.mw;obtain⟨e1,ht⟩:=XR.mt;have i1:Br M1 bt_ i4_=some fI_:=(fN (k:=r5_) hw0' rfl).trans k3t;have kd:Rf M1 [.fn wt]=some mn_:=by
  show((Ef M1 fI_).map λq=>D.lst hU_)=_;rw[cI ht];show some (D.lst ((cr_).map b_))=_;rw[JR];show some (D.lst (W.its.map λi=>i))=_;rw[List.map_id']
 have ad:Pa M1 (.lst fC_) mn_=some (.lst (fC_++W.its)):=by
  show Al (.lst fC_) mn_=_;show(if[root,binn].length+fN!<=big then _ else none)=_;rw[IA (by simp only[IH,MN];unfold big;omega)]
 show Dd (Cs _) J_ (AG t) r7! M1 _;unfold Dd Cs;refine fE (aT (d:=.lst fC_) rfl) (a5n (fE eQ! r8! i1) kd) ad _ ?_;have r1:Ft W root:=.inr ao_;have fw:∀x∈binn::W.its,Ft W x:=λx O=>by
  obtain rfl|O:=HQ.mp O
  .exact .inr gN!
  .exact .inl O
 show Hg J_ ab! (AG t) (root::binn::W.its) r7! M1 _;refine aL!;show AG t [o_,bZ_,A!,some root] M1 _;refine b1p (W:=W) (Q:=λM'=>Bt M' w dh W/\∀b,M b≠none->b≠a->M' b=M b) (λK hK=>c3h jz hS TJ ql λM' o ae gr ik=>hK M' o ae gr ⟨hL.keep λc hc=>ik c (hL.live hc) λz=>hc (by rw[z];exact ra),λb hb hn=>(ik b (by rw[(dH_).1];exact hb) hn).trans (dH_).1⟩) (λ_ q=>q.1) wi a! (k:=some (.inl (.inr "root"))) rfl r1 λM2 o qk gr ⟨u6,ik⟩=>?_;refine b1q gr u6 wi a! (binn::W.its) (some root) _ fw λy'=>?_;show Dd (Pf _) J_ (BE t) sa_ M2 _;obtain⟨wt2,wn2,qa2,XS⟩:=id u6;obtain⟨e02,hw02⟩:=XS.mw;obtain⟨e12,w9⟩:=XS.mt;have i2:Br M2 bt_ i4_=some (.fn wt2):=(fN (k:=r5_) hw02 rfl).trans k3t;unfold Dd Pf;refine fE eQ! r8! i2 _ ?_;rw[cI w9];refine hV ?_;have ek:(cr_).map b_=W.its:=by
  rw[JR];show W.its.map (λi=>i)=_;rw[List.map_id']
 show Hg J_ _ (BE t) ((cr_).map b_) sa_ M2 _;rw[ek];refine b1o (pre:=pre) w9 gr u6 hw a7 hn W.its y' _ (λx O=>O) λy2=>?_;have h99:¬Ft W (.tup [fq!,fq!]):=λz=>by
  obtain z|z|z:=z
  .obtain z|⟨o,ho,z⟩:=c4d L _ z
   .cases z
   .have de:o∈Ju ops:=(KM.mp ho).1;have ii:o∈ops:=(cL ops).mem_iff.mp de;simp only[Op.nm,D.tup.injEq,NK,D.int.injEq]at z;have:=(hO.op o ii).hh;omega
  .cases z
  .cases z
 have hth:Tk gH_ [V_,kb!] M2 X_:=by
  have:=c2c (k:=some (.inr [.inl 9,.inl 9])) gr (x:=kb!) rfl;rw[IK h99]at this;show"#D"
 exact dA (fE (dS bK_ (aT (d:=kb!) rfl) hth) (aT (d:=iu!) rfl) (d:=dM!) rfl) (hR M2 ik)
end
section
variable{t:Ar}{M:Mh}{ρ:Ad}{ns:List Int}
def jC{g:a1_}{fa fb:e!}(B:fa ρ=some x)(Y:k3_):f2 g fa fb ρ=g x y:=by unfold f2;rw[B,Y];rfl
def b1b{f g:e!}{a b:D}(B:k6!)(Y:k6_):Ac f (Ac g Ag) ρ=some ak_:=by unfold Ac;rw[B,Y];rfl
def pZ{m k:Int}(hk:0<k):Bn bF! f3_=some (.int (m%k)):=by show Du oh_ (λi j=>.int (i%j)) bF! f3_=_;simp[Du,hk]
def a2h{f:e!}{k:Int}(h0:xk!)(h:f ρ=some f3_):∃m,f1 Bi (Ac l! (Ac f Ag)) ρ=some bF!/\0<=m:=by obtain⟨m,e,B,_⟩:=jJ ns (k:=k);exact⟨m,(xM (b1b h0 h)).trans e,B⟩
def pL{i:Nat}{f:WE}{q:WS}{R:j_}(h:f ρ M λd M1=>q ck_ M1 R):Ah (An i f) q ρ M R:=h
def c5t{i:Nat}{f:e!}{R:j_}(h:cl!)(k:R pN! M):An i hU! ρ M R:=by unfold An;rw[cO h];exact k
def ER:WS:=Ah uw!
 ux_
def c4g{rs:h!}{o:Op}{j:Nat}:(bO_).take j++o.v::(bO_).drop j=(rs.take j++o::rs.drop j).map Op.v:=by rw[IW,HZ,List.map_take,List.map_drop]
def c6h{os:h!}{k:Nat}{o:Op}(h:os[k]?=some o):Ai hY_ cM_=some o.v:=by have hl:=(IJ.mp h).1;show Cw Z_ an_=_;unfold Cw Ea;rw[S_,q2_];show Z_[(an_).toNat]?=_;rw[LK,JG,h];rfl
def b1k{b:Int}{os:h!}(hl:V!<64):∀(m k:Nat) (rs:h!) (y4 y5:ah!) (R:j_),V! - k=m->k<=V!->rs.Perm (os.take k)->
  (∀(XT:h!) iz ky,XT.Perm os->R (.nx [z_,ca!,aT_,some (.lst (XT.map Op.v)),iz,ky]) M)->
  Hg c5_ ab! ER ((zm_).map λj=>D.int kL_) [z_,ca!,aT_,gr!,y4,y5] M R
 |0,k,rs,y4,y5,R,hm,hk,hp,hR=>⟨trivial,hR rs y4 y5 (by rw[LA a!]at hp;exact hp)⟩
 |m+1,k,rs,y4,y5,R,hm,hk,hp,hR=>by
  refine aL!;have hlr:N!=k:=by rw[hp.length_eq,OB];omega
  have ek:os[k]?=some os[k]:=IM a!;show ER mr_ M _;obtain⟨x,e1,x0⟩:=a2h (ns:=ns) (ρ:=mr_) (f:=f2 Al u_ H_) (k:=b+(k:Nat)) rfl rfl;have el:∀y,Ii (f1 Bf eS!) [z_,ca!,aT_,gr!,cN!,y]=some cM_:=λy=>by
   show some (D.int sh_)=_;rw[IF,hlr]
  generalize hq:(if(5:Int)<an_ then(5:Int)else an_)=q;have q0:0<=q/\q<=(k:Nat):=by rw[<-hq];split<;>omega
  have e2:f2 Al uv_ v_ mr_=some (.int (q+1)):=by
   rw[jC (x:=.int q) ((xM (b1b (el y5) rfl)).trans (by rw[<-hq];rfl)) rfl];rfl
  have e3:=(jC e1 e2).trans (pZ a!);have a0:0<=x%(q+1):=KP _ a!;have a1:x%(q+1)<q+1:=JX _ a!;generalize hz:x%(q+1)=z at a0 a1 e3;refine gR e3 ?_;obtain⟨j,hj⟩:∃j:Nat,(j:Int)=(k:Nat) - z:=⟨((k:Nat) - z).toNat,t_⟩;have e4:Ro 3 uw_ ux! sk!=some (.nx [z_,ca!,aT_,some (.lst ((rs.take j++os[k]::rs.drop j).map Op.v)),cN!,some fi!]):=by
   unfold Ro;rw[jC (el _) (y:=.int z) rfl,jC (x:=eU_) (y:=p3!) rfl rfl,c6h ek];show(if 0<=an_ - z/\(mu_).toNat<=(bO_).length/\(bO_).length<big then some (Fl.nx [z_,ca!,aT_,some (.lst ((bO_).take (mu_).toNat++os[k].v::(bO_).drop (mu_).toNat)),cN!,some fi!])else none)=_;rw[<-hj,LK,IA ⟨t_,by rw[IF];omega,Av!⟩,c4g]
  show Tp (Ro 3 _ _) sk! M _;unfold Tp;rw[e4];refine b1k hl m R_ _ (some cM_) (some fi!) R a! a! ?_ hR;refine QD.trans ?_;rw[OU,MJ a!];exact(hp.cons _).trans (List.perm_append_singleton _ _).symm
def a4v{b:Int}{os:h!}{R:s_}(hl:V!<64)(hR:∀rs:List Op,rs.Perm os->R mr! M):Hx [bH!,fa_,eU_] M R:=by
 refine k!;show Ah (Dd (Jg (Em iO_)) c5_ ER) (Ay ak!) so_ M _;have hi:Em iO_ so_=some ((List.range V!).map λi=>D.int aG_):=mZ (by
  show some (D.int (sp_:Int))=_;rw[IF]) a!
 unfold Ah Dd Jg;rw[hi,QO];refine b1k hl os.length 0 [] none none _ a! a! d_ λrs y4 y5 hp=>?_;exact dA (aT (d:=.lst bO_) rfl) (hR rs hp)
def GK(t:Ar):WS:=Ah uB!
 (Ah uC!
 (Ah nl_
 (Ah uH_
 (Ah uJ!
 (Ah uK!
 uK_)))))
nonrec def bE(ns:z!)(b:Int)(a:xz!)(os rs:h!)(br:Int)(i:Nat)(y7 y8 y9:ah!):Ad:=[z_,ca!,o_,aT_,some (.int br),gr!,some gf_,y7,y8,y9]
def c5g{rs:h!}{i j:Nat}(hi:i<=N!):Di bO_ sr_ (some ((i:Nat)+(j:Nat)))=((dR!).take j).map Op.v:=by
 unfold Di;rw[HT.sIx_nat,show aG_+(j:Nat)=((i+j:Nat):Int)by omega,HT.sIx_nat,IF,Nat.min_eq_left hi,List.map_take,List.map_drop];obtain c|c:=Nat.le_total (i+j) N!
 .rw[Nat.min_eq_left c,Nat.add_sub_cancel_left]
 .rw[Nat.min_eq_right c,LA d_,LA bN!]
variable{yy:Int}{a ta wa:xz!}{U rs os:List Op}{s:Yk}{b:Int}{i:Nat}
def c9r{br:Int}{z:Nat}{q:WS}{R:j_}(hi:i<N!)(hl:N!<64)(hz:z<=2)
  (k:∀ms:List Op,(∀o∈ms,o∈rs)->ey_<32->(∀o∈(dR!).take z,o∈ms)->q (bE ns b a os rs br i c7_ iM! y9) M R):
  Ah nl_ q
   (bP!) M R:=by
 have ml:((dR!).take z).length<=2:=by rw[OB];omega
 have sub:∀o∈(dR!).take z,o∈rs:=λo ho=>List.mem_of_mem_drop (List.mem_of_mem_take ho);have no:q bP! M R:=k _ sub a! λo h=>h;obtain⟨x,e1,x0⟩:=a2h (ns:=ns) (ρ:=su_) (f:=f2 Al uD_ ac!) (k:=b+30+(i:Nat)) rfl rfl;obtain⟨x',vx,x0'⟩:=a2h (ns:=ns) (ρ:=su_) (f:=f2 Al u_ uG!) (k:=b+31) rfl rfl;have v5:Aa 5 bP!=some mr!:=rfl;have v6:Aa 6 bP!=some gf_:=rfl;have v8:Aa 8 bP!=some iM_:=rfl;have e2:f2 Aw uE_ B_ bP!=some (.bl (x%3==0)):=
  (jC sv_ rfl).trans ln!
 have e3:f2 Kd ac! B_ bP!=some (.bl (decide sw_)):=(jC v6 rfl).trans rfl;have e4:Co uF! uF_ bP!=some sx!:=by
  unfold Co fT;rw[e2,e3];cases x%3==0<;>rfl
 unfold Ah;cases c:sx! with
 |false=>
  rw[c]at e4;exact iU e4 no
 |true=>
  rw[c]at e4;have ow:(0:Int)<(i:Nat):=KD (Bool.and_eq_true_iff.mp c).2;have a0:0<=x'%(i:Nat):=KP _ a!;have a1:x'%(i:Nat)<(i:Nat):=JX _ ow;obtain⟨w,hw⟩:∃w:Nat,(w:Int)=x'%(i:Nat):=⟨(x'%(i:Nat)).toNat,t_⟩;have ew:rs[w]?=some rs[w]:=IM a!;have e5:f2 Bn uH! ac! bP!=some (.int (w:Nat)):=((jC vx v6).trans (pZ ow)).trans (by rw[hw]);have e6:Dl nl! bP!=some (.lst [rs[w].v]):=by
   unfold Dl;rw[a4k ((jC v5 e5).trans (c6h ew))];rfl
  have e7:f2 Al bA! (Dl nl!) bP!=some (.lst ((sA!).map Op.v)):=by
   rw[jC v8 e6];show(if(su!).length+[rs[w].v].length<=big then some (D.lst _)else none)=_;rw[IA (by rw[IF];show _+1<=big;unfold big;omega),IW];rfl
  refine ifT e4 (c5t e7 ?_);exact k sA! (λo ho=>(lV!).elim (sub o) λy=>by rw[IG.mp y];exact JW _) (by rw[IL];show _+1<32;omega) λo ho=>IS _ ho
def c5k{br:Int}{R:j_}(nd:t.nd)(hU:I!)(h:be_)(nn:iq!)(hp:rs.Perm U)(hi:i<N!)
  (hR:∀s' (z:Nat) ja mf mh,0<z->Hd t yy a ta wa U s'->Vd s'.S s'.W->To a ta wa s s'->(∀o∈(dR!).take z,o∈s'.S++s'.W)->R (.nx (bE ns b a os rs (br+eE_) (i+z) ja mf mh)) s'.M):
  GK t sF_ s.M R:=by
 have hl:N!<64:=by have:=hU.l;rw[hp.length_eq];omega
 obtain⟨x,e1,x0⟩:=a2h (ns:=ns) (ρ:=bE ns b a os rs br i y7 y8 y9) (f:=f2 Al uz! ac!) (k:=b+20+(i:Nat)) rfl rfl;have a0:0<=x%2:=KP _ c_;have a1:x%2<2:=JX _ c_;obtain⟨z,hz⟩:∃z:Nat,(z:Int)=1+x%2:=⟨(1+x%2).toNat,t_⟩;have e2:f2 Al v_ uz_ sF_=some st!:=by
  rw[jC rfl sv_,hz];rfl
 refine gR e2 ?_;have e3:Eo E_ dc! (At nk_) (bE ns b a os rs br i c7_ y8 y9)=some iM_:=by
  show some (D.lst (Di bO_ sr_ (some sH_)))=_;rw[c5g a!]
 refine gR (ρ:=bE ns b a os rs br i c7_ y8 y9) e3 ?_;refine c9r hi hl a! λms B Y h3=>?_;refine pL (oG (a:=V_) (b:=.lst cW_) rfl rfl (c2f nd hU h nn (λo ho=>hp.mem_iff.mp (B o ho)) Y λs' h' ic dm m'=>?_));have ew:Cu uI! (bE ns b a os rs br i c7_ iM! mG!)=some false:=rfl;refine fL (ρ:=bE ns b a os rs br i c7_ iM! mG!) (iY ew) ?_;refine gR (d:=.int (br+eE_)) rfl ?_;refine c5t (ρ:=bE ns b a os rs (br+eE_) i c7_ iM! mG!) (d:=.int sK!) (by show some (D.int sH_)=_;rw[show aG_+(z:Nat)=sK! by omega]) ?_;exact hR s' z _ _ _ a! h' ic dm λo ho=>m' o (h3 o ho)
def HJ:Ad->Option Bool:=fT uy_
def c5l(nd:t.nd)(hU:I!)(hp:rs.Perm U):∀(m:Nat) (s:Yk) (i:Nat) (y7 y8 y9:ah!) (R:j_),N! - i<=m->Hd t yy a ta wa U s->Vd s.S s.W->(∀o∈rs.take i,o∈s.S++s.W)->
  (∀s' i' ja mf mh,Hd t yy a ta wa U s'->Vd s'.S s'.W->To a ta wa s s'->(∀o∈rs,o∈s'.S++s'.W)->R (.nx (bE ns b a os rs id! i' ja mf mh)) s'.M)->
  Bz (Da HJ) (GK t) (m+1) (bE ns b a os rs lI! i y7 y8 y9) s.M R:=by
 intro m
 induction m with
 |zero=>
  intro s i y7 y8 y9 R hm h nn hc hR;unfold Bz;show"!a"
 |succ m ih=>
  intro s i y7 y8 y9 R hm h nn hc hR;unfold Bz;by_cases c:i<N!
  .refine iY (b:=true) (by show some sK_=_;rw[IF,IT a!]) _ ?_;rw[j!];refine c5k nd hU h nn hp c λs' z ja mf mh z0 h' ic dm m'=>?_;rw[show(eG!:Int)+(eF_ - eG!)=eF_ by omega];refine ih s' (i+z) ja mf mh R a! h' ic (λo ho=>?_) λs2 i2 y7 y8 y9 Y TL rf m2=>hR s2 i2 y7 y8 y9 Y TL (dm.trans rf) m2;rw[List.take_add]at ho;exact(lV!).elim (λy=>dm.sub o (hc o y)) (m' o)
  .show"!a"
def a8c{R:s_}(nd:t.nd)(hU:I!)(h:be_)(e0:s.S=[])(e1:s.W=[])(hR:∀s',Hd t yy a ta wa U s'->To a ta wa s s'->s'.S.Perm U->R (.int (U.length:Nat)) s'.M):Fi t [bH!,fa_,V_,.lst mI!] s.M R:=by
 refine k!;refine gR (d:=bF_) rfl ?_;refine pL ?_;have sh:∀K:D->Mh->Prop,Hx [bH!,fa_,.lst mI!] s.M K->Am 3 Hx (Ab i_ gi!) [z_,ca!,o_,some (.lst mI!),some O!,none,none,none,none,none] s.M K:=λK h=>bn!;refine sh _ (a4v (by have:=hU.l;omega) λrs hp=>?_);refine gR (d:=.int gn_) rfl ?_;unfold Ah;have:=c5l (ns:=ns) (b:=b) (os:=U) nd hU hp rs.length s 0 none none none (λr M2=>match r with|.nx ah=>Ay aX! ah M2 (λr M=>match r with|.nx _=>R .non M|.rt d=>R d M)|.rt d=>R d M2) a! h (λx O=>by rw[e1]at O;cases O) (λo ho=>by simp at ho) λs' i' y7 y8 y9 h' ic dm m'=>?_
 .rw[e0]at this;exact⟨_,this⟩
 .have pm:=h'.g.done hU ic λo ho=>m' o (hp.mem_iff.mpr ho);exact dA (aT (d:=.int id!) rfl) (by rw[pm.length_eq];exact hR s' h' dm pm)
end
section
variable{t:Ar}{M:Mh}{ρ:Ad}{ns:List Int}{a a2 ta vd wa ve:xz!}{os S S2 Wt Wt2:List Op}{kl u9:List Int}{ca va:Int->Addr}{out out2:D}
def tW{r:Ad}{ft:ad!}{p:Op->Bool}(hf:∀o:Op,ft gu!=some (p o)):∀(os:h!),Ej J! ft l! iQ! Z_=some sS!
 |[]=>rfl
 |o::os=>by
  have ih:=tW hf os;have e1:Bm 0 o.v iQ!=some gu!:=rfl;have e2:Aa 0 gu!=some o.v:=rfl;rw[HZ];unfold Ej;rw[e1];show((ft gu!).bind λb=>if b then(Aa 0 gu!).bind λy=>(Ej J! ft l! iQ! Z_).map (y::·)else Ej J! ft l! iQ! Z_)=_;rw[hf,e2,ih];show(if p o=true then some (o.v::(os.filter p).map Op.v)else some sS!)=_;cases c:p o with
  |true=>rw[j!,KJ c];rfl
  |false=>rw[F!,KB pW_]
def FF(t:Ar):WS:=Ah uU_
 uW_
def b2z(h:mI_)(x:Int):(hs S x).length=(hs os x).length:=(h.filter _).length_eq
def c3s{n:Int}:Sj M dU! dU!=some X_:=nK rfl bY_
def a3s{k h:Int}{R:j_}(hk:Ai tA_ f3_=some h2_)(hA:Cr t M 3 a ta wa Wt out S kl ca)(hB:Cr t M 4 a2 vd ve Wt2 out2 S2 u9 va)(p:mI_)(p2:S2.Perm os)(hl:V!<64)
  (hR:∀y',R (.nx [z_,aT_,o_,eX!,b4_,y']) M):FF t mJ! M R:=by
 have hf:∀o:Op,fT nn! [K_,b4_]=some (decide (o.h=h)):=λo=>by
  have:f2 Aw aI! uT! [K_,b4_]=some (.bl (o.h==h)):=(jC (rX o) hk).trans ln!;show"!A"
 have e1:f1 Bf uU! mJ!=some sY!:=by
  have:Fa 1 [4] dS_ J! (fT nn!) l! mJ!=some (.lst sY_):=by
   unfold Fa;rw[uS (f:=Aa 1) (ds:=os.map Op.v) rfl];show(if(Z_).length<=big then Option.map D.lst (Ej _ _ _ [none,b4_] Z_)else none)=_;rw[IA cs!,tW hf];rfl
  rw[xM (a4k this)];show some (D.int ((sY_).length:Nat))=_;rw[IF]
 refine gR e1 ?_;have hh:=qP (h:=h) hA;have XU:=qP (h:=h) hB;rw[b2z p]at hh;rw[b2z p2]at XU;refine lM (ρ:=[z_,aT_,o_,eX!,b4_,some sY!]) (d0r (b:=false) (lH (fE (eJ aU_ qm! (aT hk) hh) aU_ c3s)) (λ_=>lH (fE (eJ aU_ (hB.nob hM1) (aT hk) XU) aU_ c3s)) (λz=>by cases z)) ?_;exact hR _
def Gd.nil{U:h!}:Gd U [] []:=⟨.nil,rc!,U,.refl _⟩
def FB(t:Ar):WS:=Ah (Dd (Jg (Em ab_)) c5_ (FF t))
 uX_
def FC(t:Ar):WS:=Ah uR_ (FB t)
def b7e:Xm t=Ah uO!
 (Ah uO_
 (Ah uP!
 (FC t))):=rfl
def c8d{R:j_}(hA:Cr t M 3 a ta wa Wt .non S kl ca)(hB:Cr t M 4 a2 vd ve Wt2 .non S2 u9 va)(hO:Fx os)(hS:Fx S)(qu:Fx S2)(p:mI_)(p2:S2.Perm os)(hl:V!<64)(dj:∀b,Ow a2 vd ve u9 va b->b≠a)(hR:∀M',R (.rt C!) M'):
  FB t mL_ M R:=by
 have hi:Em ab_ mL_=some ((List.range 3).map λi=>D.int aG_):=mZ (n:=3) rfl c_;unfold FB Ah Dd Jg;rw[hi];show Hg c5_ ab! (FF t) [bF_,.int 1,.int 2] mL_ M _;refine⟨trivial,a3s (k:=0) (h:=0) rfl hA hB p p2 hl λy'=>⟨trivial,a3s (k:=1) (h:=5) rfl hA hB p p2 hl λy'=>⟨trivial,a3s (k:=2) (h:=15) rfl hA hB p p2 hl λy'=>aL!⟩⟩⟩;show Ay _ [z_,aT_,o_,eX!,some bf_,y'] M _;unfold Ay Jw wT;refine oG (a:=V_) (b:=eU_) rfl rfl (a0x hA hS hO p hl λM' fr=>?_);show(if true=true then _ else _);rw[j!];have mv:Mv M (λb=>b=a) M' (λb=>b=a):=⟨λb hb h=>fr b hb h,cF!⟩;exact oG (a:=.fn a2) (b:=eU_) rfl rfl (a0x (hB.mv mv dj).1 qu hO p2 hl λM2 _=>hR M2)
def d0v{ft:WT}{q1 q2:WS}{R:j_}(h:ft ρ M λb M1=>if b=true then q1 ρ M1 R else q2 ρ M1 R):FO ft q1 q2 ρ R X_ M:=by show rS_;rw[F!];exact h
def b9q(nd:t.nd):Zv t lG_ M0 (λd _=>d=.bl true):=by
 obtain⟨m,em,m0,_⟩:=jJ ns (k:=60);have hN0:0<=m%10:=KP _ c_;have hN1:m%10<10:=JX _ c_;obtain⟨N,hN⟩:∃N:Nat,(N:Int)=m%10:=⟨(m%10).toNat,t_⟩;obtain⟨os,ew,hl,hO,hw⟩:=b3p ns 0 N a!;have wj:V!<64:=by omega
 have u3:Uw os 3:=s4_;have u4:Uw os 4:=s4_;refine k!;rw[b7e];show Ah (An 1 _) _ iS! M0 _;have e1:f1 Ki uN_ iS!=some hY_:=by
  have B:f1 Bi uM_ iS!=some bF!:=(xM (b1b (f:=Aa 0) (g:=fC l1_) rfl rfl)).trans em;have Y:=(jC (ρ:=iS!) B (fb:=fC l1!) (y:=.int 10) rfl).trans (pZ c_);rw[<-hN]at Y;exact(xM (c9v rfl rfl Y)).trans ew
 refine gR e1 (pL (zQ (yy:=3) λa ta wa M1 ha hA _ fa=>?_));refine pL (zQ (yy:=4) λa2 vd ve M2 oz hB fr fb=>?_);have jz:=hA.keep fr;have dj:∀b,Ow a2 vd ve [] (λ_=>a2) b->¬Ow a ta wa [] qn_ b:=λb B Y=>hA.lv Y (fb b B);show FC t iS_ M2 _;unfold FC Ah;have b1:∀{M:Mh} (K:s_),Fi t [bH!,.int 5,V_,eU_] M K->Am 4 gL_ uQ_ iS_ M K:=λK h=>bn!;have b2:∀{M:Mh} (K:s_),Fi t [bH!,.int 25,.fn a2,eU_] M K->Am 4 gL_ uR! iS_ M K:=λK h=>bn!;have el:f1 Bf c3_ iS_=some (.int (V!:Nat)):=by
  show some (D.int sp_)=_;rw[IF]
 refine b2y (c6p (b1 _ (a8c (s:=⟨M2,[],[],[],λ_=>a⟩) nd u3 ⟨jz,Gd.nil⟩ rfl rfl λs1 B vb p1=>?_)));obtain⟨hB1,dj1⟩:=hB.mv vb.mv dj;refine a8n el c3s ?_;refine d0v ?_;unfold wT;refine c6p (b2 _ (a8c (s:=⟨s1.M,[],[],[],λ_=>a2⟩) nd u4 ⟨hB1,Gd.nil⟩ rfl rfl λs2 Y rf p2=>?_));obtain⟨xu,dj2⟩:=B.hA.mv rf.mv λb h h'=>dj1 b h' h
 refine a8n el c3s ?_;show(if false=true then _ else _);rw[F!];exact c8d xu Y.hA hO B.g.hS Y.g.hS p1 p2 wj (λb hb z=>dj2 b dj_ hb) λ_=>rfl
end
end K11
namespace K11
open PySem L2 DL
section
variable{P:x4!}{w:x5!}{K:xB!}{mg:Str->Option Value}{base:Heap}{t:Ar}
def lV(T:g_):Ok P w K mg base 1 "is_whole" o! (Fu):=
 eE (hx:=[]) (k:=0) T.C8 a4x (λL=>(aZ (bS (jN s6_ (jN s7! (gQ (fS a5w a5x (bQ c1q c9l rfl T.Q9 c9p cb!) (aS c7l c7s aC aC) r!)))))))
def iQ(T:g_):Ok P w K mg base 2 "is_from_one" o! (Dz):=
 eE (hx:=[]) (k:=1) T.D1 vL (λL=>(aZ (bS (jN s8_ (gQ (fS d0z d1b D! aC r!))))))
def lW(T:g_):Ok P w K mg base 2 "is_below" f5! (Hf):=
 eE (hx:=[]) (k:=1) T.C9 a4z (λL=>(aZ (bS (jN s8_ (gQ (a7t lS lU a5w a5x aC D! Y!))))))
def iP(T:g_):Ok P w K mg base 3 "is_name" o! (Ec):=
 eE (hx:=[]) (k:=2) T.D2 a8y (λL=>(bB mO_ (aZ (bS (jN (aR (lW T) c! rfl (aD aY_ (aD (iA T.T4 rfl) aK)) aq!) (gQ td!))))))
def lD(T:g_):Ok P w K mg base 4 "is_sign_name" o! (Eb):=
 eE (hx:=[]) (k:=3) T.D3 tZ (λL=>(bB mO_ (aZ (bS (jN te_ (gQ (aR (lW T) c! rfl (aD aY_ (aD mQ_ aK)) aq!)))))))
def a9q(T:g_):Ok P w K mg base 4 "is_item" o! (He):=
 eE (hx:=[]) (k:=3) T.D4 a8z (λL=>(aZ (bS (a0l tg_ (a0l ti_ (gQ ti_))))))
def yH(T:g_):Ok P w K mg base 4 "is_sibling" o! (Ez):=
 eE (hx:=[]) (k:=3) T.D5 yC (λL=>(aZ (bS (a0l tk! (gQ tg_)))))
def a1v(T:g_):Ok P w K mg base 5 "is_behind" o! (Fz):=
 eE (hx:=[]) (k:=4) T.D6 a1i (λL=>(aZ (bS (a0l tk! (gQ (aR (lD T) c! rfl cb! aA!))))))
def a9p(T:g_):Ok P w K mg base 1 "is_sign" dH! (Hb):=
 eE (hx:=[]) (k:=0) T.D7 a8w (λL=>(aZ (bS (jN (a7t lS lU lS lU aU D! aU) (gQ (fS zH zJ (bQ c1o c9j rfl T.S8 c9n cb!) (iA T.T7 rfl) r!))))))
def a9o(T:g_):Ok P w K mg base 2 "is_text" o! (Kg):=
 eE (hx:=[]) (k:=1) T.D8 a8v (λL=>(bB (hX (uG (a0j (gH (fH (iX a3n rfl T.R8 rfl T.T1 cK b0x D!))) (sO (gH (c0t lS lU lS lU aC gv_ mQ_))))) eZ! eA) (aZ (bS (bQ (xU rfl) b0w rfl T.R0 b0y (aD (lA (NL:=dH!) (NF:=[]) (ix:=[]) rfl c_ u! (cD (sc:=Ae Ni) rfl u!) Dm.nil c_ rfl (c9a D!) (λ_ _ _ _ _=>bH (i:=0) (show(dH!:List Str).Nodup by decide+kernel) rfl a_) aB! gw_ (λ_ _ _ _ _=>(aR (a9p T) c! rfl cb! aA!))) aK))))))
def sX(T:g_):Ok P w K mg base 3 "is_place" o! (Dy):=
 eE (hx:=[]) (k:=2) T.D9 a4y (λL=>(aZ (bS (aR (lW T) c! rfl (aD D! (aD (iA T.T6 rfl) aK)) aq!))))
def iE{g:ai!}{ps:p!}{k:Nat}(h:Ok P w K mg base k x ps g)(hm:mg x=some bV_)(hp:T_=1)(hk:k<=5):∃fd ps,T_=1/\Fj P w K mg base Pz 5 hr fd ps kc!/\Ex K fd ps []/\W.keepIn K bV_=true:=by obtain⟨f',fd,B,Y,h3,h4⟩:=h;rw[hm]at h3;cases h3;exact⟨fd,ps,hp,B.mono hk,Y,h4⟩
def c4r(T:g_):Zy P w K mg base 5 1 (Li t):=by
 intro hr g e;unfold Li at e;show"!6"
 .show"!5";exact iE (a9q T) T.T9 rfl c_
 show"!6"
 .show"!5";exact iE (yH T) T.U0 rfl c_
 show"!6"
 .show"!5";exact iE (a1v T) T.U1 rfl c_
 show"!6"
 .show"!5";exact iE (a9o T) T.U2 rfl c_
 show"!6"
 .show"!5";exact iE (lD T) T.U3 rfl c_
 show"!6"
 .show"!5";exact iE (iQ T) T.U4 rfl c_
 show"!6"
 .show"!5";exact iE (sX T) T.U5 rfl c_
 show"!6"
 .show"!5";exact iE (lV T) T.U6 rfl c_
 show"!6"
 .show"!5";exact iE (iP T) T.U7 rfl c_
 cases e
def gD(T:g_):Dt P w K mg base 1 t.B3 "have" ga! eV_:=
 cH (hx:=[]) (k:=0) T.U8 T.K8 a1n (λL=>(aG (bG (wN bX c1k rfl T.R9 dD (aE (wM w_ e0! w! mS_ c9!) aO)))))
def wD(T:g_):Wr P w K mg base 1 "Hand" t.B3 f9_ (Iu t):=
 a2a (hx:=[]) (k:=0) T.K7 a9b (λL=>(aF (gE T.U8 T.V9 n! w!) (aF (gE T.U8 T.W3 n! fM) (aF (gE T.U8 T.W4 n! (a2i aO)) tr_))))
def a1w(T:g_):Ok P w K mg base 6 "are_parts" f5_ (Hu t):=
 eE (hx:=[]) (k:=5) T.E1 a1j (λL=>(bB (hX (bM zH zJ gv_ iY_ r!) eZ! eA) (aZ (bS (bQ (xU rfl) b0w rfl T.R0 b0y (aD (lA (NL:=ts_) (NF:=[]) (ix:=[]) rfl c_ u! (cD (sc:=Ae Kk) rfl u!) Dm.nil c_ rfl (c8z rfl T.T3 c9m Y! D!) (λ_ _ _ _ _=>b7y rfl (pR (bH (i:=0) tt_ rfl a_) (pR (bH (i:=1) tt_ rfl a_) b2d))) (c4p 0 1) gw_ (λ_ _ _ _ _=>(c1d (j:=0) (n:=1) (c4r T) c! gz_ aA!))) aK))))))
def a9r(T:g_):Ok P w K mg base 7 "is_deed" o! (Ir t):=
 eE (hx:=[]) (k:=6) T.E2 a9a (λL=>(bB (hX (uG (a0j tb! (sO (bM aA_ bZ gv_ aC r!)))) eZ! eA) (bB (hX (uG (a0j (gH (fH (iX a3n rfl T.R8 rfl T.T1 cK b0x aY_))) (sO (b5w tw! rfl aY_)))) eZ! eA) (bB (hX (gH (fH (aR (a1w T) c! rfl (aD (dX D! dW_ eV) (aD (c5b tw! rfl aY_ q!) aK)) aq!))) eZ! eA) (aZ (bS (a0l (fS zH zJ aY_ aU r!) (gQ (fS lS lU (aS aN bF mU! aY_) mQ_ r!)))))))))
def uD(T:g_):Ok P w K mg base 8 "is_operation" o! (Cc t):=
 eE (hx:=[]) (k:=7) T.E3 uA (λL=>(bB mO_ (aZ (bS (jN te_ (jN td! (gQ (aR (a9r T) c! rfl mP! aA!))))))))
def pT(T:g_):La P w K mg base 2 "was_taken" ax_ (Fy t):=
 cC (hx:=[]) (k:=1) T.L5 a1g (λL=>(aG (bG (kP lS (Ip.m lU) gA_ tB! r!))))
def sA(T:g_):La P w K mg base 3 "not_yet_taken" bL_ (En t):=
 cC (hx:=[]) (k:=2) T.L8 dQ (λL=>(aF (aY (i:=2) dQ.nd rfl a_ fM) (aF (eO JF rfl (eR (b2p aN uM e2_ w!)) (bH (i:=3) dQ.nd rfl a_) c7! (aF (aY (i:=4) dQ.nd rfl a_ mW_) (aF (cF (fP (aQ (pT T) c! rfl e3!)) (aG (aY (i:=5) dQ.nd rfl a_ (bW S! bI (bW S! bI e0! (aB mX_) q!) (aB (aS oP oS mX_ aC)) q!))) (aG (cF (dB aA_ i1_ (aB mX_) (bJ T.U8 T.V9 n!) r!) dZ! (aG (aY (i:=5) dQ.nd rfl a_ (zR w_ K! bC_ aq_ c9!)))))) (aG (cF (eZ (bM bD! wE ar! a8! r!)) dZ! bO))))) gC!)))
def a1u(T:g_):La P w K mg base 2 "last_time" ga_ (Ht t):=
 cC (hx:=[]) (k:=1) T.L7 a1h (λL=>(aF (cF (dB aA_ i1_ (bR (gD T) c! n! aJ_) al! r!) (aG (bG al!)) bO) (aG (bG (bW S! bI (bW S! bI (bW S! bI e0! w! q!) (aB (c1c aC)) q!) al! q!)))))
def vZ(T:g_):La P w K mg base 3 "check_times" lS_ (Jq t):=
 cC (hx:=[]) (k:=2) T.L9 fX (λL=>(aF (aY (i:=2) fX.nd rfl a_ fM) (aG (eO JF rfl (eR (wN (yV rfl) c1j rfl T.T0 a0r aJ_)) (bH (i:=3) fX.nd rfl a_) c7! (aF (aY (i:=4) fX.nd rfl a_ (bW S! bI (bW S! bI w! aq_ q!) al! q!)) (aF (cF (dB lS (Ip.m lU) bC_ (wM w_ K! gE! (aQ (a1u T) c! rfl (aE n! (aE gE! aO))) c9!) r!) dZ! bO) (aG (dI w_ K! gE! bC_))))))))
def sB(T:g_):La P w K mg base 9 "check_message" bL_ (Fk t):=
 cC (hx:=[]) (k:=8) T.M6 rL (λL=>(aF (cF (eZ (gH (fH (bQ (xU rfl) b0w rfl T.R0 b0y (aD (lA (NL:=o!) (NF:=[]) (ix:=[]) rfl c_ u! (cD (sc:=Ae Ha) rfl u!) Dm.nil c_ rfl (gJ Y!) (λ_ _ _ _ _=>bH (i:=0) (show(o!:List Str).Nodup by decide+kernel) rfl a_) aB! gw_ (λ_ _ _ _ _=>(aR (uD T) c! rfl cb! aA!))) aK))))) dZ! bO) (aG (cQ (aQ (vZ T) c! rfl (aE n! (aE (aQ (sA T) c! rfl d0!) aO)))))))
def oQ(T:g_):La P w K mg base 2 "is_next" ax_ (Hc t):=
 cC (hx:=[]) (k:=1) T.L6 a8x (λL=>(aG (bG (kP aA_ i1_ gA_ (b2p aN uM tB! al!) r!))))
def zK(T:g_):La P w K mg base 1 "accept" ax_ (Kh t):=
 cC (hx:=[]) (k:=0) T.M7 b4c (λL=>(aF (cQ (b2s (zR w_ e0! gA_ (a2i aO) c9!) w!)) tr_))
def pU(T:g_):La P w K mg base 3 "accept_waiting" bw_ (Ed t):=
 cC (hx:=[]) (k:=2) T.M9 dZ (λL=>(aF (aY (i:=1) dZ.nd rfl a_ al!) (aF tZ_ (aF (iR JF (eZ (bM b8p b8r tY_ aC r!)) (aF (cQ (c3u w_ e2_ bk!)) (aF (cQ (aQ (zK T) c! rfl (aE n! i6!))) (aF (b9f (i:=1) dZ.nd rfl a_ al!) (aG tZ_))))) d1!))))
def a9n(T:g_):La P w K mg base 4 "receive" ax_ (Ke t):=
 cC (hx:=[]) (k:=3) T.N0 vK (λL=>(aF (cF (fP (aQ (oQ T) c! rfl d0!)) (aF (cQ (aQ (zK T) c! rfl d0!)) (aG (bG (b2p aN uM al! (aQ (pU T) c! rfl cz_))))) bO) (aF (aY (i:=2) vK.nd rfl a_ (c6e (aQ (pT T) c! rfl d0!) (sE (kP cc_ fF w! e2_ rfl)))) (aF (cF (wH (oT (eZ (gH (fH aC!))) (kL (dB a5w (Ip.m a5x) (wN bX c1k rfl T.R9 dD (aE e2_ aO)) (aB (iA T.T8 rfl)) r!)))) (aG (cQ (b2s e2_ w!))) bO) (aG (bG al!))))))
def c3n(T:g_):La P w K mg base 10 "take" bL_ (Tf t):=
 cC (hx:=[]) (k:=9) T.N3 uJ (λL=>(aF (cQ (aQ (sB T) c! rfl d0!)) (aF (aY (i:=2) uJ.nd rfl a_ al!) (aF (eO JF rfl (oV (gJ Y!)) (bH (i:=3) uJ.nd rfl a_) c7! (aG (b9f (i:=2) uJ.nd rfl a_ (aQ (a9n T) c! rfl e3!)))) gC!))))
def b8w(T:g_):Ok P w K mg base 1 "_law_cell" cV_ (Oi):=
 eE (hx:=[]) (k:=0) T.O4 b6u (λL=>(bB (hX (a7o D!) t7_ eA) (aZ (bS aC))))
def eQ(T:g_):Ok P w K mg base 2 "_law_mix" cV_ (Bi):=
 eE (hx:=[]) (k:=1) T.O5 a1l (λL=>(bB (fR (i:=2) a1l.nd rfl a_ (aS eG eH (aS aN bF (aR (b8w T) c! rfl (aD D! gz_) aq!) (aS rW rY aC nc!)) aC)) (bB (fR (i:=2) a1l.nd rfl a_ (aS eG eH (aS rW rY aC! aC) aC)) (aZ (bS (aS eG eH (aS aN bF (aS rW rY (aS nG nH aC! aC) aC) aC!) aC))))))
def b5a(T:g_):Ok P w K mg base 1 "_law_whole" [cX!] (Of):=
 eE (hx:=[]) (k:=0) T.O6 b4e (λL=>(aZ (bS (jN s6_ (gQ s7!)))))
def a1y(T:g_):La P w K mg base 3 "_law_shuffled" l0! (Hx):=
 cC (hx:=[]) (k:=2) T.Q6 iF (λL=>(aF (a9x (mS (i:=3) iF.nd rfl a_ aK)) (aF (eO JF rfl (oV (fK rfl T.S9 tY_)) (bH (i:=4) iF.nd rfl a_) (cZ 4) (aF (aY (i:=5) iF.nd rfl a_ (aB (aS eG eH (aR e5_ c! rfl (aD D! (aD (aS aN bF Y! aO_) aK)) aq!) (aS aN bF (bQ (b5z rfl) c9k rfl T.S7 c9o (aD ue! jb_)) aC)))) (aG (a9x (a0k (i:=3) c_ (aS oP oS ue! ar!) (aM aH aL aC! aO_ q!)))))) (pW (aG (bG aq_))))))
def zM(T:g_):La P w K mg base 11 "_law_bring" l0_ gL_:=
 cC (hx:=[]) (k:=10) T.Q7 eL (λL=>(aF (aY (i:=4) eL.nd rfl a_ al!) (aF (aY (i:=5) eL.nd rfl a_ (aQ (a1y T) c! rfl (aE n! jc!))) (aF (aY (i:=6) eL.nd rfl a_ al!) (aF (iR JF (eZ (bM a5w a5x aK! ui_ r!)) (aF (aY (i:=7) eL.nd rfl a_ (aB (aS aN bF aC uk_))) (aF (aY (i:=8) eL.nd rfl a_ (aB (dX ar! (eC aK!) (eC ul_)))) (aF (cF (eZ (uG (sP (bM aA_ bZ uk_ aC r!) (nR (bM b8p b8r aK! aC r!))))) (aG (aY (i:=8) eL.nd rfl a_ (aB (aS aN bF cA_ (pC (aD (aM aH aL ar! (aS eG eH ne_ aK!) q!) aK)))))) bO) (aF (aY (i:=9) eL.nd rfl a_ (aQ (c3n T) c! rfl (aE K! (aE je! aO)))) (aF (cF (eZ (gH (fH (aR (b5a T) c! rfl (aD bQ! aK) aA!)))) (aG (bG (aB (c1c aC)))) bO) (aF (aY (i:=4) eL.nd rfl a_ (aB (aS aN bF aO_ bQ!))) (aG (aY (i:=6) eL.nd rfl a_ (aB ul_)))))))))) (aG (bG bC_)))))))
def a1z(T:g_):La P w K mg base 1 "_law_children" b5_ (Hy):=
 cC (hx:=[]) (k:=0) T.Q3 a1m (λL=>(aG (bG (iZ (NL:=d2_) (NF:=[a4!]) (ix:=[1]) rfl c_ u! (cD (sc:=Ae Kl) rfl u!) ni! c_ rfl (eR bl!) je_ aB! ni_ nj!))))
def b5c(T:g_):Ok P w K mg base 1 "_law_items" aH_ (Md):=
 eE (hx:=[]) (k:=0) T.O7 b4f (λL=>(aZ (bS (aS aN bF (aS aN bF (fI (n:=8) rfl) (lA (NL:=d2_) (NF:=[]) (ix:=[]) rfl c_ u! (cD (sc:=Ae Os) rfl u!) Dm.nil c_ rfl jf! ut_ aB! (λ_ _ _ _ _=>c5z (bM aA_ bZ mU! aU r!)) uu_)) (fI (n:=12) rfl)))))
def b5b(T:g_):Ok P w K mg base 1 "_law_signs" aH_ (Mc):=
 eE (hx:=[]) (k:=0) T.O8 mX (λL=>(bB (mS (i:=1) mX.nd rfl a_ (aD dM (aD jf_ aK))) (bB (b0o JF rfl jf! mX.nd rfl a_ (aZ (hX (bM aA_ bZ jg_ aU r!) (aZ (b0o JF rfl (fK rfl T.S9 (bQ bX dN rfl T.R9 dD (aD jg_ aK))) mX.nd rfl a_ (aZ (sQ (i:=1) c_ (dC (aD a9! (aD a9! jb!))))))) eA))) (a7p (aZ (bS Y!))))))
def b8s(T:g_):Ok P w K mg base 1 "_law_text" nt! (Og):=
 eE (hx:=[]) (k:=0) T.O9 a5c (λL=>(bB (fR (i:=2) a5c.nd rfl bc_ aU) (aZ (bS (c4z aU (lA (NL:=[ay!]) (NF:=[cW!,lU_]) (ix:=[0,2]) rfl c_ u! (cD (sc:=Ae Qn) rfl u!) (Dm.cons (j:=0) uD!) c_ rfl (fK rfl T.S9 (aS aN bF aC (aS eG eH D! Y!))) (λ_ _ _ _ _=>bH (i:=0) (show([ay!,cW!,lU_]:List Str).Nodup by decide+kernel) rfl a_) aB! gw_ (λ_ _ _ _ _=>(aM aH aL aC! (aS eG eH (aS nG nH Y! (aS aN bF aC (aS rW rY aC D!))) aC) q!))))))))
def jU(T:g_):Ok P w K mg base 1 "_law_pick" gb! (Dv):=
 eE (hx:=[]) (k:=0) T.P0 b6s (λL=>t7_)
def b8v(T:g_):Ok P w K mg base 3 "_law_deed" lW! (Kq):=
 eE (hx:=[]) (k:=2) T.P1 fJ (λL=>(bB (fR (i:=4) fJ.nd rfl a_ (aR e5_ c! rfl (aD D! gz_) aq!)) (bB (fR (i:=5) fJ.nd rfl a_ (aR (b5c T) c! rfl d0_ aA!)) (bB (fR (i:=6) fJ.nd rfl a_ (aR gK! c! rfl (aD (aS aN bF (dX ar! dW_ eV) (dX ar! eV dW_)) gK_) aq!)) (bB (fR (i:=7) fJ.nd rfl a_ (aR gK! c! rfl (aD (aS aN bF ar! nm!) gK_) aq!)) (bB (hX (fH (iX a3n rfl T.R8 rfl T.T1 cK b0x dc_)) (aZ (fR (i:=7) fJ.nd rfl a_ dM)) eA) (bB (fR (i:=8) fJ.nd rfl a_ (fI (n:=19) rfl)) (bB (fR (i:=9) fJ.nd rfl a_ (aM aH aL cA_ uL! q!)) (bB (hX gL! (aZ (bS (dC (aD bQ! uM!)))) eA) (bB (hX gL! (aZ (bS (dC (aD bQ! (aD aK! uM!))))) eA) (bB (hX gL! (aZ (bS (dC (aD bQ! (aD aK! aK))))) eA) (bB (fR (i:=10) fJ.nd rfl a_ (aR gK! c! rfl (aD (aR (b5b T) c! rfl d0_ aA!) gK_) aq!)) (bB (hX gL! (aZ (bS (dC (aD bQ! (aD aK! (aD ji! (aD (aR (b8s T) c! rfl (aD ne_ jb!) aq!) aK))))))) eA) (bB (hX (uG (sP gL! (nR (bM nB nJ ji! dM r!)))) (aZ (bS (dC (aD bQ! (aD aK! (aD ji! (aD (aS aN bF aC (aS eG eH uS! (aS oP oS aC (aM aH aL ji! aC q!)))) aK))))))) eA) (bB (hX (bM b4u d1d bQ! nm! rfl) (aZ (bS (dC (aD aU (aD aK! (aD uV_ (aD (aS oP oS uV_ aC) aK))))))) eA) (bB (fR (i:=11) fJ.nd rfl a_ (aS aN bF (lA (NL:=d2_) (NF:=[]) (ix:=[]) rfl c_ u! (cD (sc:=Ae Qr) rfl u!) Dm.nil c_ rfl (gJ aC!) ut_ aB! gw_ uu_) (pC (aD (dC (aD aC (aD (aS aN bF aC uL!) aK))) aK)))) (aZ (bS (dC (aD bQ! (aD (aR gK! c! rfl (aD (aA 11) gK_) aq!) aK)))))))))))))))))))))
def a6b(T:g_):La P w K mg base 1 "_law_hang" cY_ (Go):=
 cC (hx:=[]) (k:=0) T.P6 jT (λL=>(aF (pX (i:=4) (NL:=d2_) (NF:=[a4!]) (ix:=[1]) jT.nd rfl a_ rfl c_ u! (cD (sc:=Ae Qp) rfl u!) ni! c_ rfl (eR bl!) je_ aB! (λ_ _ _ _ _=>sZ (eZ (bM bD! wE aY_ Y! r!))) i5!) (aF (aY (i:=5) jT.nd rfl a_ al!) (aF (iR JF (eZ (uG (sP (bM a5w a5x ar! uZ_ r!) (nR (bM bD! wE (aM aH aL (aM aH aL aO_ ar! q!) aC q!) aC! r!))))) (aG (aY (i:=5) jT.nd rfl a_ (aB (aS aN bF ar! aC))))) (aF (eO JF rfl (oV (fK rfl T.S9 uZ_)) (bH (i:=6) jT.nd rfl a_) (cZ 6) (aG (cF (eZ (uG (sP (bM nB nJ a8! dM r!) (nR (bM aA_ bZ (aM aH aL aO_ aK! q!) (dC (aD a8! d0_)) r!))))) (aG (aY (i:=5) jT.nd rfl a_ (aB (aS aN bF aK! aC)))) bO))) (aG (dI w_ n! bl_ (aB (aS aN bF (aS aN bF (dX aO_ eV (eC ar!)) (pC (aD (dC (aD Y! d0_)) aK))) (dX aO_ (eC ar!) eV))))))))))
def b8u(T:g_):La P w K mg base 1 "_law_lies" lX! (Mm):=
 cC (hx:=[]) (k:=0) T.P7 vO (λL=>(aF (iR JF (eZ u4!) (aF (pX (i:=3) (NL:=d2_) (NF:=[a4!]) (ix:=[1]) vO.nd rfl a_ rfl c_ u! (cD (sc:=Ae Qo) rfl u!) ni! c_ rfl (eR bl!) je_ aB! ni_ nj!) (aF (cF (eZ (gH (a7o a8!))) de_ bO) (aG (aY (i:=1) vO.nd rfl bc_ gE!))))) de_))
def a6a(T:g_):La P w K mg base 2 "_law_move" cY_ (Jm):=
 cC (hx:=[]) (k:=1) T.P8 b6t (λL=>(aG (cF (wH (oT (dB cc_ fF w! bl! rfl) (kL (wH (b2l (dB cc_ fF K! bl! rfl) (a2e (dB cc_ fF K! gP! rfl))))))) (aG (cF (oU (fP (aQ (b8u T) c! rfl (aE n! jo_)))) (aG (cQ (aQ (a6b T) c! rfl (aE n! (aE w! nq!))))) bO)) bO)))
def c7t(T:g_):La P w K mg base 3 "_law_do" lY_ (Wf):=
 cC (hx:=[]) (k:=2) T.P9 iL (λL=>(aF (aY (i:=2) iL.nd rfl bc_ gA_) (aF (aY (i:=3) iL.nd rfl bc_ (aB (dC (aD e1_ (aD e1_ aK))))) (aG (cF cf_ (aF (aY (i:=4) iL.nd rfl a_ (c6e (kP cc_ fF bk! bl! rfl) (sE (aB (fS aA_ bZ a9! aU r!))))) (aF (dI w_ bl! aq_ mS_) (aF (dI w_ bl! aq_ (a2i (aE al! (aE al! (aE al! nq_))))) (aG (cQ (aQ (a6b T) c! rfl (aE n! (aE aq_ (aE (aB (d1x (fH aO_) a9! aU)) i6!))))))))) (aG (cF cf_ (aG (cQ (aQ (a6a T) c! rfl (aE n! gQ!)))) (aG (cF cf_ (aG (cQ (aQ (a6a T) c! rfl (aE n! vb!)))) (aG (cF ns_ (aG (dI w_ vc_ bk! bk!)) (aG (cF ns_ (aF vd! (aF (aY (i:=6) iL.nd rfl a_ al!) (aF (eO JF rfl (oV (fK rfl T.S9 ui_)) (bH (i:=7) iL.nd rfl a_) (cZ 7) (aG (cF (eZ (bM aA_ bZ (aM aH aL (aM aH aL ar! dc_ q!) aC q!) a9! r!)) (aG (aY (i:=6) iL.nd rfl a_ (aB (aS aN bF dc_ aC)))) bO))) (aF (pX (i:=8) (NL:=[ay!]) (NF:=[eI_,lX_]) (ix:=[2,3]) iL.nd rfl a_ rfl c_ u! nt_ (Dm.cons (j:=2) nu!) c_ rfl (oV (fK rfl T.S9 (bQ bX dN rfl T.R9 dD (aD a9! aK)))) (λ_ _ _ _ _=>bH (i:=0) (show([ay!,eI_,lX_]:List Str).Nodup by decide+kernel) rfl a_) aB! gQ_ (λ_ _ _ _ _=>(aB (dC (aD (aS aN bF aC! (dC cb!)) (aD (aM aH aL e1_ D! q!) (aD fA aK))))))) (aG (dI w_ bl! bk! (aB (aS aN bF (aS aN bF (dX ar! eV (eC aK!)) cA_) (dX ar! (eC aK!) eV))))))))) (aG (cF ns_ (aF (aY (i:=9) iL.nd rfl bc_ (iZ (NL:=[ay!]) (NF:=[eI_]) (ix:=[2]) rfl c_ u! nt_ uD! c_ rfl (oV (fK rfl T.S9 a9!)) (λ_ _ _ _ _=>bH (i:=0) (show([ay!,eI_]:List Str).Nodup by decide+kernel) rfl a_) aB! gQ_ (λ_ _ _ _ _=>(aB (aS aN bF (dX e1_ eV dW_) (dC (aD (aS aN bF (aM aH aL e1_ aC q!) D!) aK))))))) (aF vd! (aG (dI w_ bl! bk! (iZ (NL:=[jt_]) (NF:=[lY!]) (ix:=[9]) rfl c_ u! nt_ (Dm.cons (j:=9) Dm.nil) c_ rfl (oV (gJ ar!)) (λ_ _ _ _ _=>bH (i:=0) (show([jt_,lY!]:List Str).Nodup by decide+kernel) rfl a_) aB! gQ_ (λ_ _ _ _ _=>(b9j (aE gI_ (aE gI_ (aE (wO gI_ (sE (kP ju! fF gI_ w! rfl))) aO)))))))))) bO)))))))))))))))
def sY(T:g_):La P w K mg base 1 "_law_ordered" aH_ (Fw):=
 cC (hx:=[]) (k:=0) T.P4 gY (λL=>(aF (a9x (mS (i:=1) gY.nd rfl a_ aK)) (aF (eO JF rfl (oV jf!) (bH (i:=2) gY.nd rfl a_) (cZ 2) (aF (aY (i:=3) gY.nd rfl a_ (aB (uV iY_))) (aF (iR JF (eZ (uG (sP (bM b8p b8r a8! aC r!) (nR (bM (c7q (Ak.units0 L)) c7x (dC (aD vi! (aD vi! aK))) (dC (aD a9! (aD a9! aK))) r!))))) (aG (aY (i:=3) gY.nd rfl a_ (aB vh_)))) (aG (a9x (a0k (i:=1) c_ a8! aC!)))))) (pW d1!))))
def a9s(T:g_):La P w K mg base 2 "_law_undone" aH_ (Ml):=
 cC (hx:=[]) (k:=1) T.P5 oK (λL=>(aF (aY (i:=1) oK.nd rfl a_ fM) (aF (eO JF rfl vj! (bH (i:=2) oK.nd rfl a_) (cZ 2) (aG (cF (dB cc_ fF jy_ gP! rfl) (aG (dI w_ w! jy_ (aB (fS aA_ bZ jg_ aU r!)))) bO))) d1!)))
def b8t(T:g_):La P w K mg base 4 "_law_play" aH_ (Oh):=
 cC (hx:=[]) (k:=3) T.Q0 pM (λL=>(aF (aY (i:=1) pM.nd rfl a_ (qB w_ (iG bl_ mS_ (iG bl_ fM (iG bl_ fM wI))))) (aF (aY (i:=2) pM.nd rfl a_ (aQ (a9s T) c! rfl cz_)) (aF (eO JF rfl vj! (bH (i:=3) pM.nd rfl a_) c7! (aG (cF (wH (oT (dB ju! fF (aB (aM aH aL i3! aC q!)) gP! rfl) (kL (oU (fP (wM w_ K! (aB (dC (aD i3! (aD i3! aK)))) e9_ c9!)))))) (aG (cQ (aQ (c7t T) c! rfl jc!))) bO))) d1!))))
def wC(T:g_):La P w K mg base 1 "_law_shown_text" b5_ (Hj):=
 cC (hx:=[]) (k:=0) T.Q4 vN (λL=>(aG (bG (b2r (iZ (NL:=[jt_]) (NF:=[]) (ix:=[]) rfl c_ u! (cD (sc:=Ae Iy) rfl u!) Dm.nil c_ rfl (eR (bW S! bI bl! w! q!)) (λ_ _ _ _ _=>bH (i:=0) (show([jt_]:List Str).Nodup by decide+kernel) rfl a_) aB! (λ_ _ _ _ _=>sZ (eZ (fH aY_))) nj!)))))
def gC(T:g_):Dt P w K mg base 1 t.B4 "has" L! gh_:=
 cH (hx:=[]) (k:=0) T.U9 T.F9 vM (λL=>(aG (bG (kP cc_ fF w! fb! rfl))))
def rZ(T:g_):Ok P w K mg base 1 "time_and_hand" bL! (Dh):=
 eE (hx:=[]) (k:=0) T.E4 rJ (λL=>(aZ (bS uu!)))
def lX(T:g_):Ok P w K mg base 4 "in_order" a3_ (Dq):=
 eE (hx:=[]) (k:=3) T.E5 a5a (λL=>(aZ (bS (c1a (rZ T) (Ak.in1 (Ak.in1 c!)) rfl rfl T.T0 D!))))
def nI(T:g_):Wr P w K mg base 1 "Row" t.B5 aV! (Hv t):=
 a2a (hx:=[]) (k:=0) T.E6 b4d (λL=>(aF (gE T.V0 T.V1 n! vp!) (aG (gE T.V0 T.V2 n! vp!))))
def yI(T:g_):Wr P w K mg base 3 "Outline" t.B4 aV! (Im t):=
 a2a (hx:=[]) (k:=2) T.F8 yD (λL=>(aF (gE T.U9 T.V3 n! (qB w_ (iG bl_ cz! (iG bl_ cz! wI)))) (aF (gE T.U9 T.V4 n! (qB w_ (iG bl_ jA! (iG bl_ jA! wI)))) (aF (gE T.U9 T.V5 n! fM) (aF (gE T.U9 T.V6 n! fM) (aF (gE T.U9 T.V7 n! fM) (aG (gE T.U9 T.V8 n! fM))))))))
def iO(T:g_):Ok P w K mg base 1 "is_undo_or_redo" bL! (Bb):=
 eE (hx:=[]) (k:=0) T.J8 oI (λL=>(aZ (bS (a0l vr_ (gQ vr_)))))
def yG(T:g_):La P w K mg base 5 "last_words" a3_ (Gk):=
 cC (hx:=[]) (k:=4) T.J9 jE (λL=>(aF (aY (i:=1) jE.nd rfl a_ fM) (aF (eO JF rfl vs! (bH (i:=2) jE.nd rfl a_) (cZ 2) (aG (cF (eZ (fH (aR (iO T) c! rfl d0_ aA!))) (aG (dI w_ w! jy_ jy_)) bO))) d1!)))
def b4v(T:g_):La P w K mg base 6 "undone" a3_ (Ma):=
 cC (hx:=[]) (k:=5) T.K0 jR (λL=>(aF (aY (i:=1) jR.nd rfl a_ (aQ (yG T) c! rfl cz_)) (aF (aY (i:=2) jR.nd rfl a_ fM) (aF (eO JF rfl (oV jf!) (bH (i:=3) jR.nd rfl a_) c7! (aF (aY (i:=4) jR.nd rfl a_ mW_) (aG (cF (wH (oT (eZ (gH (fH (aR (iO T) c! rfl jb! aA!)))) (kL (dB aA_ i1_ (b9l w_ w! bC_ c9!) bl_ r!)))) (aG (dI w_ K! bC_ e9_)) bO)))) gC!))))
def pV(T:g_):Dt P w K mg base 1 t.B5 "holds" L! (Hw t):=
 cH (hx:=[]) (k:=0) T.V0 T.E7 a1k (λL=>(aG (bG (wO vv_ (sE (kP cc_ fF w! dg_ rfl))))))
def gB(T:g_):Dt P w K mg base 2 t.B5 "put_behind" lO! (Cv t):=
 cH (hx:=[]) (k:=1) T.V0 T.E8 fY (λL=>(aF (aY (i:=3) fY.nd rfl a_ (c6f (fP (bR (pV T) c! n! gV!)) K! cz!)) (aF (aY (i:=4) fY.nd rfl a_ (bW S! bI dg_ aq_ q!)) (aF (dI w_ dg_ aq_ w!) (aF (dI w_ jD! w! aq_) (aF (dI w_ dg_ w! bC_) (aG (dI w_ jD! bC_ w!))))))))
def wA(T:g_):Dt P w K mg base 3 t.B4 "put" cU_ (Jr t):=
 cH (hx:=[]) (k:=2) T.U9 T.G8 lO (λL=>(aF (aY (i:=4) lO.nd rfl a_ (c6f (fP vx!) K! bl_)) (aF (dI w_ nH_ w! bC_) (aF (cQ (bR (gB T) c! (bW S! bI fb! bC_ q!) jc!)) (aF (dI w_ fb! w! jA!) (aF (dI w_ jE! w! jA!) (aG (dI w_ vx_ w! (c3t nq_ (aB (iA T.T6 rfl)))))))))))
def uE(T:g_):Dt P w K mg base 1 t.B5 "take_out" L! (Jf t):=
 cH (hx:=[]) (k:=0) T.V0 T.E9 iB (λL=>(aF (aY (i:=2) iB.nd rfl a_ (b9k w_ jD! w! c9!)) (aF (aY (i:=3) iB.nd rfl a_ (b9k w_ dg_ w! c9!)) (aF (dI w_ dg_ K! aq_) (aG (dI w_ jD! aq_ K!))))))
def dG(T:g_):Dt P w K mg base 1 t.B4 "has_item" L! (Ch t):=
 cH (hx:=[]) (k:=0) T.U9 T.G6 nT (λL=>(aG (bG (kP cc_ fF w! jE! rfl))))
def lZ(T:g_):Dt P w K mg base 1 t.B4 "is_within" f7! (Ff t):=
 cH (hx:=[]) (k:=0) T.U9 T.G7 gX (λL=>(aF (iR JF (eZ (uG (sP (bM nB nJ Y! dM r!) (nR u4!)))) (aG (aY (i:=1) gX.nd rfl a_ nL!))) (aG (bG vv_))))
def nW(T:g_):Dt P w K mg base 2 t.B4 "can_move" f7_ (Fv t):=
 cH (hx:=[]) (k:=1) T.U9 T.G9 nU (λL=>(aG (bG (wO nL_ (wO vx! (sE (c8b (bR (lZ T) c! n! jo_))))))))
def lE(T:g_):Dt P w K mg base 3 t.B4 "move" cU_ (Gn t):=
 cH (hx:=[]) (k:=2) T.U9 T.H9 uB (λL=>(aF (cF (oU (fP (bR (nW T) c! n! (aE w! gV!)))) (aG a2f) bO) (aF (cQ (bR (uE T) c! (bW S! bI fb! nL! q!) aJ_)) (aF (cQ (bR (gB T) c! (bW S! bI fb! K! q!) jc!)) (aG (dI w_ nH_ w! K!))))))
def sC(T:g_):Dt P w K mg base 3 t.B4 "write" lO_ (Ib t):=
 cH (hx:=[]) (k:=2) T.U9 T.J0 dR (λL=>(aF (cF (oU (fP (bR (dG T) c! n! gV!))) (aG a2f) bO) (aF (aY (i:=5) dR.nd rfl a_ aq_) (aG (eO JF rfl (oV (c0z rfl T.R6 aO_)) (b7y rfl (pR (bH (i:=6) dR.nd rfl a_) (pR (bH (i:=7) dR.nd rfl a_) b2d))) (c0k 6 7) (aF (aY (i:=8) dR.nd rfl a_ (aB (aS aN bF Y! (dC (aD aK! aK))))) (aF (cQ (bR (gB T) c! (bW S! bI jE! K! q!) (aE je! (aE gY! aO)))) (aF (dI w_ (bJ T.U9 T.V7 n!) je! (aB dc_)) (aG (aY (i:=5) dR.nd rfl a_ je!))))))))))
def wB(T:g_):Dt P w K mg base 2 t.B4 "cut" lP! (Js t):=
 cH (hx:=[]) (k:=1) T.U9 T.J1 iK (λL=>(aF (cF (oU (fP nL_)) (aG a2f) bO) (aG (eO JF rfl (oV (b5x rfl T.S9 a9! (aS aN bF a9! a8!))) (bH (i:=4) iK.nd rfl a_) (cZ 4) (aF (aY (i:=5) iK.nd rfl a_ (aB (aS aN bF (dX aC! eV dW_) (dC (aD aO_ aK))))) (aG (cF (fP (bR (pV T) c! vB_ (aE gY! aO))) (aG (dI w_ (bJ T.U9 T.V8 n!) gY! e9_)) bO)))))))
def lI(T:g_):Dt P w K mg base 2 t.B4 "set_number" f8! (Ev t):=
 cH (hx:=[]) (k:=1) T.U9 T.J2 lF (λL=>(aG (cF (fP nL_) (aG (dI w_ vC_ K! aq_)) bO)))
def c3o(T:g_):La P w K mg base 4 "play" f8_ (Nl t):=
 cC (hx:=[]) (k:=3) T.K4 c2n (λL=>(aG (cF cf_ (aG (cQ (bR (wA T) c! n! (aE w! (aE bk! i6!))))) (aG (cF cf_ (aG (cQ (bR (lE T) c! n! gQ!))) (aG (cF cf_ (aG (cQ (bR (lE T) c! n! vb!))) (aG (cF cf_ (aG (cQ (bR (sC T) c! n! (aE w! gQ!)))) (aG (cF cf_ (aG (cQ (bR (wB T) c! n! gQ!))) (aG (cF cf_ (aG (cQ (bR (lI T) c! n! gQ!))) bO)))))))))))))
def b4w(T:g_):La P w K mg base 7 "played" a3_ (Kf t):=
 cC (hx:=[]) (k:=6) T.K6 jS (λL=>(aF (aY (i:=1) jS.nd rfl a_ (mD (yI T) c! rfl)) (aF (aY (i:=2) jS.nd rfl a_ (aQ (b4v T) c! rfl cz_)) (aF (eO JF rfl vs! (bH (i:=3) jS.nd rfl a_) c7! (aF (aY (i:=4) jS.nd rfl a_ mW_) (aG (cF (dB ju! fF bC_ K! rfl) (aG (cQ (aQ (c3o T) c! rfl (aE w! (aE bC_ (aE gE! aO)))))) bO)))) d1!))))
def a1x(T:g_):La P w K mg base 5 "all_taken" bw_ (Ga t):=
 cC (hx:=[]) (k:=4) T.K9 kG (λL=>(aF (a9x (mS (i:=1) kG.nd rfl a_ aK)) (aF (eO JF rfl (b9i e0!) (bH (i:=2) kG.nd rfl a_) (cZ 2) (aG (b5l (i:=1) c_ (bW S! bI e0! K! q!)))) (pW (aG (bG (aB (aR (lX T) c! rfl gz_ aA!))))))))
def jI(T:g_):La P w K mg base 8 "outline_of" bw_ (Dk t):=
 cC (hx:=[]) (k:=7) T.L0 yB (λL=>(aF (cF (dB a9l (Ip.m a9t) vI! cz! r!) (aG (gE T.U8 T.W5 n! (aQ (b4w T) c! rfl (aE (aQ (a1x T) c! rfl cz_) aO)))) bO) (aG (bG vI!))))
def a5y(T:g_):La P w K mg base 9 "there" W_ gH_:=
 cC (hx:=[]) (k:=8) T.N7 b6r (λL=>(aG (bG (bR (gC T) c! nQ! aJ_))))
def lY(T:g_):Dt P w K mg base 1 t.B4 "parent_of" L! (Fe t):=
 cH (hx:=[]) (k:=0) T.U9 T.J3 lP (λL=>(aG (bG nL!)))
def eY(T:g_):La P w K mg base 9 "outline_with_item" W_ (Cp t):=
 cC (hx:=[]) (k:=8) T.N5 gW (λL=>(aF (aY (i:=2) gW.nd rfl a_ nQ!) (aF (cF (oU (fP (bR (dG T) c! K! aJ_))) dZ! bO) gC!)))
def b4x(T:g_):La P w K mg base 10 "parent" W_ (Oe t):=
 cC (hx:=[]) (k:=9) T.N8 b4a (λL=>(aG (bG (bR (lY T) c! nR_ aJ_))))
def nZ(T:g_):Dt P w K mg base 1 t.B5 "listed" aV! (Il t):=
 cH (hx:=[]) (k:=0) T.V0 T.F7 gS (λL=>(aF (a9x (mS (i:=1) gS.nd rfl a_ aK)) (aF (aY (i:=2) gS.nd rfl a_ (bW S! bI dg_ cz! q!)) (aF (iR JF (eZ (bM nB nJ aC! dM r!)) (aF (a9x (sQ (i:=1) c_ aC!)) (aG (aY (i:=2) gS.nd rfl a_ (bW S! bI dg_ K! q!))))) (pW d1!)))))
def kK(T:g_):Dt P w K mg base 2 t.B4 "children_of" L! (Er t):=
 cH (hx:=[]) (k:=1) T.U9 T.J4 kH (λL=>(aG (bG (a6k (nZ T) c! (bW S! bI fb! w! q!)))))
def uC(T:g_):La P w K mg base 9 "outline_with" lT! (Jd t):=
 cC (hx:=[]) (k:=8) T.N4 lC (λL=>(aF (aY (i:=2) lC.nd rfl a_ nQ!) (aF (cF (oU (fP (bR (gC T) c! K! aJ_))) dZ! bO) gC!)))
def a5z(T:g_):La P w K mg base 10 "children" W_ (Je t):=
 cC (hx:=[]) (k:=9) T.N9 a5b (λL=>(aG (bG (bR (kK T) c! (aQ (uC T) c! rfl d0!) aJ_))))
def nV(T:g_):Dt P w K mg base 2 t.B4 "signs_of" aV_ (Dr t):=
 cH (hx:=[]) (k:=1) T.U9 T.J5 nS (λL=>(aG (bG (iZ (NL:=[ax!]) (NF:=aV!) (ix:=[0]) rfl c_ u! (cD (sc:=Ae Fc) rfl u!) m1! c_ rfl (eR (a6k (nZ T) c! vB_)) vP! aB! (λ_ _ _ _ _=>sZ (dB ju! fF n! (bJ T.U9 T.V8 w!) rfl)) i5!))))
def oR(T:g_):Dt P w K mg base 3 t.B4 "text_of" aV_ (Gm t):=
 cH (hx:=[]) (k:=2) T.U9 T.J6 oJ (λL=>(aG (bG (b2r (iZ (NL:=[ax!]) (NF:=aV!) (ix:=[0]) rfl c_ u! (cD (sc:=Ae Fp) rfl u!) m1! c_ rfl (eR (bR (nV T) c! n! aJ_)) vP! aB! gQ_ (λ_ _ _ _ _=>(bW S! bI (bJ T.U9 T.V7 w!) n! q!)))))))
def c3m(T:g_):La P w K mg base 10 "text" W_ (Te t):=
 cC (hx:=[]) (k:=9) T.O0 c2m (λL=>(aG (bG (bR (oR T) c! nR_ aJ_))))
def lJ(T:g_):Dt P w K mg base 1 t.B4 "numbers_of" aV_ (Ew t):=
 cH (hx:=[]) (k:=0) T.U9 T.J7 lG (λL=>(aG (bG (zS a4e c5i rfl T.S0 b3k (aE vC_ aO)))))
def kJ(T:g_):La P w K mg base 10 "outline_with_number" b5! (Ep t):=
 cC (hx:=[]) (k:=9) T.N6 kE (λL=>(aF (cF (eZ (gH (fH (aR (sX T) c! rfl d0_ aA!)))) dZ! bO) (aG (bG nR_))))
def b4y(T:g_):La P w K mg base 11 "number" b5! (Mb t):=
 cC (hx:=[]) (k:=10) T.O3 b4b (λL=>(aG (bG (bW S! bI (bR (lJ T) c! (aQ (kJ T) c! rfl (aE n! (aE w! gV!))) aJ_) K! q!))))
def zL(T:g_):La P w K mg base 12 "_law_shows" lZ_ (Kj t):=
 cC (hx:=[]) (k:=11) T.Q5 mY (λL=>(aF (aY (i:=2) mY.nd rfl a_ (aQ (b8t T) c! rfl aJ_)) (aF (eO JF rfl (eR (b2p aN uM gP! (zS (yW rfl) c1l rfl T.S0 b3k (aE jL! aO)))) vU! c7! (aG (cF (wH (b2l (dB b4t (Ip.m b8x) (aQ (a5y T) c! rfl e3!) e9_ r!) (a2e (dB bD! lT (aQ (a5z T) c! rfl e3!) (aQ (a1z T) c! rfl nq!) r!)))) de_ bO))) (aF (eO JF rfl (b9i jL!) vU! c7! (aF (cF (dB bD! lT (aQ (c3m T) c! rfl e3!) (aQ (wC T) c! rfl nq!) r!) de_ bO) (aF (cF (dB bD! lT (c8c (aE (b9j (aE aq_ (aE (aQ (b4x T) c! rfl e3!) aO))) aO)) (iZ (NL:=d2_) (NF:=[a4!]) (ix:=[3]) rfl c_ u! vW! nu! c_ rfl (eR jL!) je_ aB! ni_ i5!) r!) de_ bO) (aG (cF (dB bD! lT (iZ (NL:=[ay!]) (NF:=[eJ!,a4!]) (ix:=[0,3]) rfl c_ u! vW! (Dm.cons (j:=0) nu!) c_ rfl vX! (λ_ _ _ _ _=>bH (i:=0) (show([ay!,eJ!,a4!]:List Str).Nodup by decide+kernel) rfl a_) aB! gQ_ (λ_ _ _ _ _=>(aQ (b4y T) c! rfl (aE w! (aE K! cz_))))) (bW S! bI jL! aq_ q!) r!) de_ bO))))) (aG (bG (kP c7n (Ip.m b8x) (aQ (a5y T) c! rfl (aE n! (aE gP! aO))) e9_ r!)))))))
def b4z(T:g_):Ok P w K mg base 4 "_law_world" lW_ (Ki):=
 eE (hx:=[]) (k:=3) T.P3 fU (λL=>(bB (mS (i:=3) fU.nd rfl a_ aK) (bB (mS (i:=4) fU.nd rfl a_ vZ!) (bB (mS (i:=5) fU.nd rfl a_ vZ!) (bB (b0o JF rfl (fK rfl T.S9 aC!) fU.nd rfl a_ (bB (fR (i:=7) fU.nd rfl a_ (aR e5_ c! rfl (aD D! (aD vZ_ aK)) aq!)) (bB (fR (i:=8) fU.nd rfl a_ (aS eG eH dc_ aC)) (bB (c0u (i:=4) c_ cA_ (aS aN bF v1! aC)) (bB (c0u (i:=5) c_ cA_ (aS aN bF (aS aN bF v1_ aC) (aS eG eH (aS nG nH dc_ aC) aC))) (bB (fR (i:=9) fU.nd rfl a_ (uV (aR (b8v T) c! rfl (aD D! (aD (aS aN bF vZ_ aC) (aD a8! jb_))) (aI (aI aq!))))) (aZ (sQ (i:=3) c_ (dC (aD (aM aH aL jf_ cA_ q!) (aD v1! (aD v1_ (aD bQ! aK))))))))))))) (a7p (aZ (bS a8!))))))))
end
def Zq(K:xB!):Sp:=λvs H Q E=>∀(P:x4!) (w:x5!) (t:Ar),t.nd->Yh P w K 1 (Zv t) vs H Q E
section
variable{P:x4!}{w:x5!}{K:xB!}{mg:Str->Option Value}{h:Heap}
def c9u(gi:mg "law"=some fa!)(dl:AX K mg "law" Sr [aW!])(T:Txt P w K mg jQ!)(nd:Ar.nd jQ!):
  ∃fd:FuncData,(∀(s:xA!) (u:x6!),BindsTo s fd jx! [("_law_script",u)])/\∀base:Heap,K.In base->base.Ns mainGlobals mg->Fj P w K mg base Pz 13 fa fd [aW!] (Zq K):=by
 obtain⟨fd,B,Y⟩:=c3y (hx:=[]) (k:=12) (P:=P) (w:=w) (q:=Xm jQ!) dl rK gi (λbase hr af A outer s H E L=>(aF (aY (i:=1) rK.nd rfl a_ (aB (aR (b4z T) c! rfl (aD D! (aD aC (aD (aS eG eH (aR e5_ c! rfl (aD D! jb_) aq!) aC) aK))) (aI aq!))))
   (aF (aY (i:=2) rK.nd rfl a_ v4_)
   (aF (aY (i:=3) rK.nd rfl a_ v4_)
   (aF (cF (wH (b2l (dB bD! lT (aQ (zM T) c! rfl (aE n! (aE al! jo_))) (aB iY_) r!) (a2e (dB bD! lT (aQ (zM T) c! rfl (aE n! (aE al! (aE aq_ aJ_)))) (aB iY_) r!)))) de_ bO)
   (aF (eO JF rfl vX! (bH (i:=4) rK.nd rfl bc_) (cZ 4) (aF (aY (i:=5) rK.nd rfl a_ (aB (bQ bX dN rfl T.R9 dD (aD (lA (NL:=["_law_op"]) (NF:=[ay!]) (ix:=[4]) rfl c_ u! (cD (sc:=Ae Sr) rfl u!) (Dm.cons (j:=4) Dm.nil) c_ rfl (gJ Y!) (λ_ _ _ _ _=>bH (i:=0) (show(["_law_op",ay!]:List Str).Nodup by decide+kernel) rfl a_) aB! (λ_ _ _ _ _=>c5z (bM aA_ bZ aY_ (aM aH aL jf_ Y! q!) r!)) (λ_ _ _ _ _=>D!)) aK))))
   (aG (cF (wH (b2l (dB bD! lT (bR (gD T) c! K! v7!) gY! r!) (a2e (dB bD! lT (bR (gD T) c! aq_ v7!) gY! r!)))) de_ bO))))
   (aG (bG (wO (aQ (zL T) c! rfl jo_) (sE (aQ (zL T) c! rfl (aE aq_ aJ_))))))))))))
 exact⟨fd,B,λbase i g=>(Y base i g).imp λvs H Q E z=>z P w _ nd⟩
def b5t{ad:xz!}{k3:Tok}{o0 o1 o2 o3 o4 o5 o6 o7:a8_}{n0 n1 n2 n3 n4 n5 n6 n7 ep:Nat}{s0 s1 s2 s3 s4 s5 s6 s7:cc!}(X:fw_)(G:fx!)
  (ga:W.nsIn K mainGlobals "PARTS"=some (some kV_))(gl:K.lookup ad=some {cls:=.type "dict",data:=.dict #[⟨PyData.keyHash w.params "put",.str "put" k0,.ref r0⟩,⟨PyData.keyHash w.params "move",.str "move" k1,.ref r1⟩,⟨PyData.keyHash w.params "drop",.str "drop" k2,.ref r2⟩,⟨PyData.keyHash w.params "write",.str "write" k3,.ref r3⟩,⟨PyData.keyHash w.params "cut",.str "cut" k4,.ref r4⟩,⟨PyData.keyHash w.params "set",.str "set" k5,.ref r5⟩,⟨PyData.keyHash w.params "undo",.str "undo" k6,.ref r6⟩,⟨PyData.keyHash w.params "redo",.str "redo" k7,.ref r7⟩] ep})(gs:oD_=false)
  (l0:K.lookup r0=some ⟨cK_,o0,.seq #[.ref B6,.ref B7] n0,s0⟩)
  (l1:K.lookup r1=some ⟨cK_,o1,.seq #[.ref B6,.ref B6,.ref B7] n1,s1⟩)
  (l2:K.lookup r2=some ⟨cK_,o2,.seq #[.ref B6] n2,s2⟩)
  (l3:K.lookup r3=some ⟨cK_,o3,.seq #[.ref B6,.ref B8,.ref B9] n3,s3⟩)
  (l4:K.lookup r4=some ⟨cK_,o4,.seq #[.ref B6,.ref C0,.ref C1] n4,s4⟩)
  (l5:K.lookup r5=some ⟨cK_,o5,.seq #[.ref B6,.ref C2,.ref C3] n5,s5⟩)
  (l6:K.lookup r6=some ⟨cK_,o6,.seq #[.ref C4] n6,s6⟩)
  (l7:K.lookup r7=some ⟨cK_,o7,.seq #[.ref C4] n7,s7⟩)
  :∀X:Cx,X.prog=P->X.w=w->X.K=K->X.mg=mg->Uz X "PARTS" (Iq jQ!):=λvt e1 e2 e3 e4=>
 c0l (rows:=[("put",k0,r0),("move",k1,r1),("drop",k2,r2),("write",k3,r3),("cut",k4,r4),("set",k5,r5),("undo",k6,r6),("redo",k7,r7)]) (w:=w) e2 e3 e4 (fD X G ga) gs gl (show(["put","move","drop","write","cut","set","undo","redo"]:List Str).Nodup by decide+kernel) ⟨rfl,gZ (fs:=[B6,B7]) l0 (by show 2<=1000;decide),rfl,gZ (fs:=[B6,B6,B7]) l1 jU!,rfl,gZ (fs:=[B6]) l2 n8_,rfl,gZ (fs:=[B6,B8,B9]) l3 jU!,rfl,gZ (fs:=[B6,C0,C1]) l4 jU!,rfl,gZ (fs:=[B6,C2,C3]) l5 jU!,rfl,gZ (fs:=[C4]) l6 n8_,rfl,gZ (fs:=[C4]) l7 n8_,trivial⟩
end
end K11
open PySem PySem.W PyProof.Rows
set_option maxRecDepth 100000 in
set_option maxHeartbeats 0 in
theorem PySem.Challenge.cw_manyhands_k11_whole_alike_holds : PySem.Challenge.rw_manyhands_k11_whole_alike.Holds := by
 w_on;o_law;k_head;(case hw=>w_witness2)
 k_fill
 refine L2.b6g (l:=PySem.Challenge.rw_manyhands_k11_whole_alike) (n:=63) (k:=13) (x:="_law_script") (CX:=L2.Pz) (sp:=K11.Zq) rfl (by decide) rfl ⟨rfl,by decide,by decide⟩ (λw h Y=>W.kIn_of Y) ?F (λK H a ns hl _ hS P w t nd=>DL.c3x hS (K11.b9q nd)) (λ_ _ _ _ z=>z)
 case F=>
  intro w mg fa h KX G hmg;refine' K11.c9u hmg ?dl ⟨?C8,?C9,?D1,?D2,?D3,?D4,?D5,?D6,?D7,?D8,?D9,?E1,?E2,?E3,?E4,?E5,?E6,?E7,?E8,?E9,?F7,?F8,?F9,?G6,?G7,?G8,?G9,?H9,?J0,?J1,?J2,?J3,?J4,?J5,?J6,?J7,?J8,?J9,?K0,?K4,?K6,?K7,?K8,?K9,?L0,?L5,?L6,?L7,?L8,?L9,?M6,?M7,?M9,?N0,?N3,?N4,?N5,?N6,?N7,?N8,?N9,?O0,?O3,?O4,?O5,?O6,?O7,?O8,?O9,?P0,?P1,?P3,?P4,?P5,?P6,?P7,?P8,?P9,?Q0,?Q3,?Q4,?Q5,?Q6,?Q7,?Q8,?Q9,?R0,?R4,?R6,?R7,?R8,?R9,?S0,?S7,?S8,?S9,?T0,?T1,?T2,?T3,?T4,?T5,?T6,?T7,?T8,?T9,?U0,?U1,?U2,?U3,?U4,?U5,?U6,?U7,?U8,?U9,?V0,?V1,?V2,?V3,?V4,?V5,?V6,?V7,?V8,?V9,?W3,?W4,?W5,?gp⟩ ?nd
  (case E6=>show"!!")
  (case F8=>show"!!")
  (case K7=>(dsimp only;refine' DL.b9g (DL.fD KX G ?g) ?a ?i ?l ?c ?k ?mm ?kc ?b;(case g=>k_is);(case a=>k_is);(case i=>k_is);(case l=>k_is);(case c=>k_is);(case k=>k_is);(case mm=>k_is);(case kc=>k_is);(case b=>exact λ_ _ _ _ _ _=>DL.lK λ_ _=>rfl)))
  (case C8=>show"!#")
  (case C9=>show"!$")
  (case D1=>show"!#")
  (case D2=>show"!#")
  (case D3=>show"!#")
  (case D4=>show"!#")
  (case D5=>show"!#")
  (case D6=>show"!#")
  (case D7=>show"!#")
  (case D8=>show"!#")
  (case D9=>show"!#")
  (case E1=>show"!$")
  (case E2=>show"!#")
  (case E3=>show"!#")
  (case E4=>show"!#")
  (case E5=>show"!#")
  (case E7=>show"!%")
  (case E8=>show"!&")
  (case E9=>show"!%")
  (case F7=>(dsimp only;refine' DL.dJ ?a ?i ?l ?c ?k ?b;(case a=>k_is);(case i=>k_is);(case l=>k_is);(case c=>k_is);(case k=>k_is);(case b=>exact λ_ _ _ _ _ _=>DL.nX λ_=>rfl)))
  (case F9=>show"!%")
  (case G6=>show"!%")
  (case G7=>show"!&")
  (case G8=>show"!'")
  (case G9=>show"!&")
  (case H9=>show"!'")
  (case J0=>(dsimp only;refine' DL.dJ ?a ?i ?l ?c ?k ?b;(case a=>k_is);(case i=>k_is);(case l=>k_is);(case c=>k_is);(case k=>k_is);(case b=>exact λ_ _ _ _ _ _=>DL.us5 λ_ _ _ _ _=>rfl)))
  (case J1=>show"!'")
  (case J2=>show"!'")
  (case J3=>show"!%")
  (case J4=>show"!%")
  (case J5=>show"!%")
  (case J6=>show"!%")
  (case J7=>show"!%")
  (case J8=>show"!#")
  (case J9=>show"!#")
  (case K0=>show"!#")
  (case K4=>show"!(")
  (case K6=>show"!#")
  (case K8=>show"!%")
  (case K9=>show"!#")
  (case L0=>show"!#")
  (case L5=>show"!$")
  (case L6=>show"!$")
  (case L7=>show"!$")
  (case L8=>show"!$")
  (case L9=>show"!$")
  (case M6=>show"!$")
  (case M7=>show"!$")
  (case M9=>show"!#")
  (case N0=>show"!$")
  (case N3=>show"!$")
  (case N4=>show"!$")
  (case N5=>show"!$")
  (case N6=>show"!(")
  (case N7=>show"!$")
  (case N8=>show"!$")
  (case N9=>show"!$")
  (case O0=>show"!$")
  (case O3=>show"!(")
  (case O4=>show"!$")
  (case O5=>show"!$")
  (case O6=>show"!#")
  (case O7=>show"!#")
  (case O8=>show"!#")
  (case O9=>show"!$")
  (case P0=>show"!$")
  (case P1=>show"!)")
  (case P3=>show"!(")
  (case P4=>show"!#")
  (case P5=>show"!#")
  (case P6=>show"!)")
  (case P7=>show"!(")
  (case P8=>show"!)")
  (case P9=>show"!$")
  (case Q0=>show"!#")
  (case Q3=>show"!$")
  (case Q4=>show"!$")
  (case Q5=>show"!$")
  (case Q6=>show"!(")
  (case Q7=>show"!)")
  (case Q8=>show"!#")
  (case dl=>(refine' DL.c4w KX G ?a ?l ?c ?k ?b;(case a=>k_is);(case l=>k_is);(case c=>k_is);(case k=>k_is);(case b=>exact λ_ _ _ _ _ _=>DL.nX λ_=>rfl)))
  (case Q9=>show"!*")
  (case R0=>show"!*")
  (case R4=>show"!*")
  (case R6=>show"!*")
  (case R7=>show"!*")
  (case R8=>show"!*")
  (case R9=>show"!*")
  (case S0=>show"!*")
  (case S7=>show"!*")
  (case S8=>show"!*")
  (case S9=>show"!*")
  (case T0=>show"!*")
  (case T1=>show"!*")
  (case T2=>show"!*")
  (case T3=>show"!*")
  (case T4=>show"!+")
  (case T5=>show"!+")
  (case T6=>show"!+")
  (case T7=>show"!+")
  (case T8=>show"!+")
  (case T9=>show"!,")
  (case U0=>show"!,")
  (case U1=>show"!,")
  (case U2=>show"!,")
  (case U3=>show"!,")
  (case U4=>show"!,")
  (case U5=>show"!,")
  (case U6=>show"!,")
  (case U7=>show"!,")
  (case U8=>show"!-")
  (case U9=>show"!-")
  (case V0=>show"!-")
  (case V1=>show"!.")
  (case V2=>show"!.")
  (case V3=>show"!.")
  (case V4=>show"!.")
  (case V5=>show"!.")
  (case V6=>show"!.")
  (case V7=>show"!.")
  (case V8=>show"!.")
  (case V9=>show"!.")
  (case W3=>show"!.")
  (case W4=>show"!.")
  (case W5=>show"!.")
  (case gp=>(refine' K11.b5t KX G ?ga ?gl ?gs ?l0 ?l1 ?l2 ?l3 ?l4 ?l5 ?l6 ?l7;(case ga=>k_is);(case gl=>k_is);(case gs=>decide);(case l0=>k_is);(case l1=>k_is);(case l2=>k_is);(case l3=>k_is);(case l4=>k_is);(case l5=>k_is);(case l6=>k_is);(case l7=>k_is)))
  (case nd=>(unfold K11.Ar.nd;decide))
