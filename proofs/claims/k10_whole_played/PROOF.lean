import PyProof.Rows.All
import Wide.All
import OpenK.AllK
import Wide.FinOn
import Lean
import PyProof.EqAt
import PyProof.EqKinds
import PyProof.TupleCall
import KE.KIntText
import PyProof.Rows.SortShell
import PyProof.Rows.CallKwBuiltin
import KE.KSortKey
import KE.KDictSum
import PySem.Challenge.RW_manyhands_k10_whole_played
set_option linter.all false
set_option Elab.async false
set_option maxRecDepth 100000
set_option maxHeartbeats 4000000
def AA:=@PySem.wpAny_bind
def AB:=@Option.bind_eq_some_iff
def AC:=@PySem.wpAny_pure
def AD:=@List.mem_cons
def AE:=@List.mem_cons_of_mem
def AG:=@PySem.Heap.get?_push_of_some
def AH:=@if_neg
def AI:=@Ne.symm
def AJ:=@List.size_toArray
def AK:=@List.map_cons
def AL:=@Option.map_eq_some_iff
def AM:=@List.mem_cons_self
def AN:=@if_pos
def AO:=@List.mem_map_of_mem
def AQ:=@List.mem_append
def AR:=@List.length_cons
def AS:=@List.mem_append_right
def AT:=@List.mem_singleton
def AU:=@decide_eq_false
def AV:=@List.nodup_cons
def AW:=@List.length_map
def AX:=@List.mem_map
def AY:=@List.length_append
def AZ:=@List.getElem?_eq_some_iff
def BA:=@List.getElem?_eq_getElem
def BB:=@Nat.le_refl
def BC:=@Bool.false_ne_true
def BD:=@PySem.Heap.get?_push_size
def BE:=@Nat.lt_of_lt_of_le
def BF:=@PySem.Heap.lt_size
def BG:=@List.mem_append_left
def BH:=@Bool.false_eq_true
def BI:=@Bool.and_eq_true
def BJ:=@decide_eq_true
def BK:=@List.map_append
def BL:=@List.append_nil
def BM:=@decide_eq_true_eq
def BN:=@Nat.le_trans
def BO:=@List.nodup_append
def BP:=@List.getElem?_set_ne
def BQ:=@List.not_mem_nil
def BR:=@PySem.PassesOwn.never
def BS:=@List.getElem?_map
def BU:=@Array.getElem?_eq_getElem
def BV:=@Nat.ne_of_lt
def BW:=@if_false
def BX:=@PySem.wpAny_call_entry
def BY:=@List.lookup_cons
def BZ:=@Option.some.inj
def CA:=@PySem.wpAny_truthy_bool
def CB:=@List.map_map
def CC:=@PySem.wpAny_holding
def CD:=@List.getElem?_append_right
def CF:=@if_true
def CG:=@Nat.zero_le
def CH:=@Array.length_toList
def CI:=@PySem.sizeLine_eq
def CJ:=@List.getElem?_eq_none
def CK:=@List.filter_cons_of_pos
def CL:=@List.filter_cons_of_neg
def CM:=@PySem.wpAny_callSpecial?_slot
def CN:=@List.append_assoc
def CO:=@List.getElem?_set_self
def CP:=@PySem.Heap.get?_update_other
def CQ:=@PyProof.Rows.wpS_bind
def CS:=@List.pairwise_cons
def CT:=@List.nil_append
def CU:=@List.length_zip
def CV:=@List.getElem?_append_left
def CW:=@List.map_congr_left
def CY:=@List.filter_eq_self
def CZ:=@PySem.wpAny_mono
def DB:=@PySem.F.slot_dict_keyiterator_next
def DC:=@PySem.wpAny_newObj_type
def DD:=@List.mem_filter
def DF:=@Int.emod_lt_of_pos
def DH:=@List.getElem_mem
def DJ:=@of_decide_eq_true
def DK:=@or_false
def DM:=@Prod.mk.injEq
def DN:=@List.length_singleton
def DO:=@List.length_filter_le
def DP:=@PySem.wpAny_field
def DQ:=@PySem.Heap.SameBut.update
def DR:=@beq_self_eq_true
def DU:=@List.all_eq_true
def DV:=@decide_eq_false_iff_not
def DX:=@Bool.not_true
def DY:=@PySem.wpAny_rule
def DZ:=@List.filter_congr
def EA:=@beq_eq_false_iff_ne
def EB:=@PySem.mem_of_lookup
def EC:=@PyProof.Rows.callWith_type1
def ED:=@List.replicate_succ
def EE:=@List.length_set
def EF:=@List.find?_cons
def EG:=@Int.emod_nonneg
def EH:=@Bool.eq_iff_iff
def EI:=@PyProof.Rows.wpS_pure
def EJ:=@PySem.wpAny_dictEntries
def EK:=@PySem.wpAny_dictEpoch
def EL:=@Nat.lt_or_ge
def EM:=@Nat.lt_of_le_of_lt
def EN:=@List.getElem?_toArray
def EO:=@List.any_cons
def EQ:=@Array.getElem?_toList
def ER:=@PySem.Calls.callWith_builtin
def ES:=@List.drop_eq_getElem_cons
def ET:=@Int.le_refl
def EU:=@PySem.wpAny_Call_Name_kw
def EV:=@List.length_range
def EW:=@List.length_nil
def EX:=@PySem.Calls.spliced_cons
def EY:=@Bool.and_self
def EZ:=@Option.bind_some
def FA:=@List.cons_append
def FB:=@List.mem_filterMap
def FC:=@PySem.Paired.length
def FD:=@PySem.wpAny_typeNameOfWhole_keyiter
def FE:=@List.mem_iff_getElem?
def FF:=@List.map_nil
def FG:=@List.length_replicate
def FH:=@List.forIn_cons
def FI:=@PySem.wpAny_seqItems
def FJ:=@beq_iff_eq
def FK:=@Nat.lt_irrefl
def FL:=@List.flatten_cons
def FM:=@List.all_cons
def FN:=@Int.toNat_natCast
def FO:=@PySem.wpAny_setField_rec
def FP:=@PySem.F.slot_NoneType_hash
def FQ:=@PySem.wpAny_passesOwn
def FR:=@List.nodup_nil
def FS:=@List.mem_range
def FT:=@List.Perm.refl
def FU:=@PySem.Heap.get?_update_self
def FV:=@List.zipIdx_cons
def FW:=@Nat.le_of_lt
def FX:=@PySem.F.slot_tuple_iterator_next
def FY:=@PySem.Calls.evalArgs_plain
def FZ:=@PySem.F.plainAttrs_list
def GA:=@PySem.F.plainAttrs_dict
def GB:=@List.getElem?_replicate
def GC:=@List.filter_map
def GE:=@List.filter_filter
def GF:=@PySem.Heap.size_push
def GG:=@List.take_succ_eq_append_getElem
def GH:=@PySem.wpAny_typeNameOf_keyiter
def GI:=@List.filter_eq_nil_iff
def GJ:=@PyProof.Rows.slot_tuple_getitem
def GK:=@PySem.F.slot_dict_get
def GL:=@Nat.ne_of_gt
def GM:=@Bool.not_eq_eq_eq_not
def GN:=@not_or
def GO:=@List.mem_of_getElem?
def GP:=@PySem.Calls.spliced_nil
def GQ:=@PySem.wpAny_notOrdered_dict
def GR:=@Option.map_some
def GS:=@List.cons.injEq
def GT:=@PyProof.Rows.listUpdate_at
def GU:=@List.nodup_iff_pairwise_ne
def GV:=@Array.getElem?_eq_some_iff
def GW:=@of_decide_eq_false
def GX:=@Nat.le_of_eq
def GY:=@List.zip_cons_cons
def GZ:=@List.getElem_range
def HA:=@PySem.wpAny_attempt
def HB:=@List.pairwise_iff_getElem
def HC:=@List.forIn_nil
def HD:=@Bool.not_false
def HE:=@PySem.wpAny_specialOf
def HF:=@PySem.slot_dict_contains
def HG:=@PySem.F.args_tuple_add_2
def HH:=@Option.isSome_iff_exists
def HI:=@decide_true
def HJ:=@PySem.F.entry_tuple_add
def HK:=@Nat.le_succ
def HL:=@List.length_eq_zero_iff
def HM:=@PySem.SeqAt.EqAt.int_int
def HN:=@PySem.Obj.data_mapFields
def HP:=@Nat.lt_succ_self
def HQ:=@List.length_take
def HR:=@List.drop_length
def HS:=@PySem.F.slot_tuple_add
def HU:=@PySem.wpAny_Call_method
def HV:=@decide_false
def HX:=@List.zipIdx_nil
def HY:=@true_and
def HZ:=@PyProof.Rows.get?_update_seq
def IA:=@PySem.wpAny_standAt
def IB:=@PySem.wpAny_letGo
def IE:=@List.mem_iff_getElem
def IF:=@PySem.wpAny_forIn_list
def IG:=@PySem.F.args_dict_keyiterator_next_1
def IH:=@Bool.and_false
def II:=@PyProof.Rows.wpS_forRange
def IJ:=@PyProof.Rows.listItems_at
def IK:=@PySem.F.entry_dict_keyiterator_next
def IL:=@List.filter_sublist
def IM:=@List.filterMap_cons
def IN:=@PySem.wpAny_loadPart'
def IP:=@PySem.wpAny_isTrue_Compare1
def IQ:=@PySem.wpAny_isOneOf_keyiter
def IR:=@PySem.wpAny_execs_nil
def IS:=@PySem.codeAny_mono
def IT:=@List.filter_append
def IU:=@PySem.F.slot_zip_next
def IV:=@PySem.call_meets
def IW:=@PySem.wpAny_updateSeq_pair
def IY:=@PySem.wpAny_updateDictKeys
def IZ:=@bne_self_eq_false
def JA:=@List.pairwise_map
def JB:=@List.ext_getElem?
def JC:=@PySem.wpAny_setField
def JD:=@PySem.wpAny_fieldsOf
def JE:=@Nat.zero_add
def JF:=@List.length_drop
def JG:=@List.filter_cons
def JH:=@PySem.F.slot_dict_setdefault
def JI:=@PySem.wpAny_onRaise
def JJ:=@PySem.wpAny_newList
def JK:=@PySem.W.kia_one
def JL:=@List.of_mem_zip
def JM:=@List.map_id
set_option hygiene false
section open Lean
def z'E:Nat->Syntax->String
|0,_=>""
|n+1,s=>match s with
 |.node _ k a=>a.foldl (λr x=>r++z'E n x) s!"n{a.size} {(toString k).replace "Lean.Parser." "~"}\n"
 |.atom _ v=>s!"a{v}\n"
 |.ident _ _ v _=>s!"i{v}\n"
 |_=>"m\n"
def z'D(f:SourceInfo):Nat->List String->Syntax×List String
|n+1,x::l=>let r:=(x.drop 1).toString;match x.front with
 |'n'=>let c:=(r.takeWhile Char.isDigit).toString;let (a,l):=c.toNat!.fold (λ_ _ (a,l)=>let (y,l):=z'D f n l;(a.push y,l)) (#[],l);(.node f ((r.drop (c.length+1)).toString.replace "~" "Lean.Parser.").toName a,l)
 |'a'=>(.atom f r,l)
 |'i'=>(.ident f r.toRawSubstring r.toName [],l)
 |_=>(.missing,l)
|_,l=>(.missing,l)
local macro_rules|`(z [$x,*])=>do let a:=x.getElems;let mut r:="";for i in [0:a.size/2] do {r:=s!"{r}\r{match a[2*i]!.raw.isStrLit? with|some s=>s|_=>a[2*i]!.raw.getId.toString}\r{z'E 999 a[2*i+1]!}"};return (Syntax.mkStrLit r).raw
def z't't:String:=z ["!7",(by split at e),"!J",(by constructor),"!#",(by refine' DL.Bm KX G ?a ?l ?c ?k ?b;(case a=>k_is);(case l=>k_is);(case c=>k_is);(case k=>k_is);(case b=>exact λ_ _ _ _ _ _=>DL.Zk λ_=>rfl)),"!$",(by refine' DL.Bm KX G ?a ?l ?c ?k ?b;(case a=>k_is);(case l=>k_is);(case c=>k_is);(case k=>k_is);(case b=>exact λ_ _ _ _ _ _=>DL.Vd λ_ _=>rfl)),"#0",(by dsimp only),"!*",(by refine' DL.Hs KX G ?a;(case a=>k_is)),"!1",(by obtain⟨ka,bi⟩:=Ey ha),"!/",(by intro x y dx dy d G H Q sub rx ry e k),"!.",(by dsimp only;(show W.findIn _ _ _=_);k_is),"!%",(by dsimp only;refine' DL.Gs ?a ?i ?l ?c ?k ?b;(case a=>k_is);(case i=>k_is);(case l=>k_is);(case c=>k_is);(case k=>k_is);(case b=>exact λ_ _ _ _ _ _=>DL.Vd λ_ _=>rfl)),"!4",(by obtain⟨v,rfl,rv⟩:=Ho r),"!8",(by unfold fT;rw[this];rfl),"!D",(by rename_i hl;cases e),"!e",(by intro z;cases z),"!f",(by by_cases hk:k=d),"!,",(by dsimp only;refine' DL.Ka KX G ?a;(case a=>k_is)),"!6",(by rename_i h;cases e;subst h),"!A",(by obtain⟨t,rfl⟩:=rx),"!H",(by intro O s Z H Q I h),"!0",(by intro X hP hw hK hc i O s Z H E I hf st hg;subst hP hw hK),"!Q",(by simp only[AQ,AD,DM]),"!2",(by obtain⟨f0,f1,f2,f3,f4,f5⟩:=hf it d_),"!<",(by obtain⟨x,e1,e⟩:=AB.mp e),"#(",(by simp only[BH,BW]),"#)",(by by_cases z:o.h=h),"!;",(by obtain⟨q0,h0,rfl⟩:=AX.mp hq),"!>",(by obtain⟨q,hq,rfl⟩:=AX.mp hd),"!@",(by intro vs ds d G H Q sub r e k),"#.",(by exact hA.live b J),"!(",(by refine' DL.Bm KX G ?a ?l ?c ?k ?b;(case a=>k_is);(case l=>k_is);(case c=>k_is);(case k=>k_is);(case b=>exact λ_ _ _ _ _ _=>DL.us3 λ_ _ _=>rfl)),"!+",(by refine' DL.cK KX G ?a;(case a=>k_is)),"!q",(by exact k _ G H aM! Bn.bl),"#;",(by rw[fL!];exact ET _),"!'",(by dsimp only;refine' DL.Gs ?a ?i ?l ?c ?k ?b;(case a=>k_is);(case i=>k_is);(case l=>k_is);(case c=>k_is);(case k=>k_is);(case b=>exact λ_ _ _ _ _ _=>DL.us4 λ_ _ _ _=>rfl)),"!3",(by obtain⟨a1,a2,a3,a4,a5,a6,k1,k2,k3,k4,k5,k6,hA⟩:=h';refine j_),"!F",(by obtain⟨o',e1⟩:=I.base.there b o e L),"!I",(by obtain⟨ds,e1,e⟩:=AB.mp e;show"!7"),"!P",(by obtain⟨its,r,pl,hz⟩:=I.list hq),"!S",(by obtain⟨a,vs,rfl,qa,ra⟩:=Da rx),"!T",(by intro vs ds d M G H Q sub m r e k),"!W",(by obtain⟨p,vs,rfl,q,rr⟩:=Da r),"!Y",(by cases By rx;cases By ry;cases e),"!c",(by unfold Gm Iw;rw[ab!,eh_];simp),"!m",(by subst e;exact I1.fpOk x_ (I1.hok.fresh x_)),"!t",(by rename_i h;rw[BI,BI,BM]at h),"!x",(by subst J;rw[Dq]at e;cases e),"!y",(by obtain⟨wt,wn,qa,hA⟩:=h),"#%",(by unfold Gm Iw;rw[ab!,d1_]),"#&",(by subst q1;rw[Gu];show"!J"),"#6",(by obtain⟨a,rfl,q⟩:=L),"#B",(by rintro(z|⟨z,_⟩|z)),"#C",(by rintro(z|⟨_,z⟩|z)),"!&",(by dsimp only;refine' DL.Gs ?a ?i ?l ?c ?k ?b;(case a=>k_is);(case i=>k_is);(case l=>k_is);(case c=>k_is);(case k=>k_is);(case b=>exact λ_ _ _ _ _ _=>DL.us3 λ_ _ _=>rfl)),"!)",(by refine' DL.Bm KX G ?a ?l ?c ?k ?b;(case a=>k_is);(case l=>k_is);(case c=>k_is);(case k=>k_is);(case b=>exact λ_ _ _ _ _ _=>DL.us4 λ_ _ _ _=>rfl)),"!-",(by dsimp only;refine'⟨?pg,?hd,?po,?sa⟩;(case pg=>k_is);(case hd=>k_is);(case po=>k_is);(case sa=>k_is)),"!5",(by obtain⟨v1,t1,rfl,r1,rr⟩:=Dg rr;obtain⟨v2,t2,rfl,r2,rr⟩:=Dg rr;cases Fp rr),"!M",(by unfold Bb at h;obtain⟨u,r,e1,q,t⟩:=h;subst e1),"!U",(by unfold Bn at h ⊢;obtain⟨a,vs,e,q,r⟩:=h),"!Z",(by obtain⟨sl,e1⟩:=I.base.slot b o e n J L),"![",(by obtain⟨a',b',c',e',hm⟩:=w.sgs x L q hq),"!_",(by show"!4";obtain⟨a,ws,rfl,q,rr⟩:=De rv),"!`",(by intro x y dx dy d M G H Q sub m rx ry e k),"!g",(by refine Oe h cj ?_;by_cases c1:i∈W.its),"!l",(by cases qE I n r ru<;>cases qE I n' r' ap),"!z",(by obtain⟨its,r,pl,hz⟩:=I.tuple hq),"!{",(by obtain⟨e,n,ne,nf,d⟩:=I.pin p hp),"!|",(by obtain⟨_,vs,B,Y⟩:=m.cell a _ hM),"#!",(by rw[AH c];exact keep rfl rfl w.inv),"##",(by obtain⟨o,e,c,d⟩:=st;exact ⟨o,e,λv z=>by rw[d]at z;cases z⟩),"#$",(by obtain⟨a,vs,rfl,qa,ra⟩:=De rx),"#'",(by subst J;rw[mup_same]at e;cases e),"#/",(by obtain⟨ds,e1,e'⟩:=AB.mp e'),"#3",(by simp only[BH,BW,BY,L]at h ⊢),"#8",(by obtain⟨B,Y,_⟩:=Tf wi q hq),"#9",(by exact hR M rl _ _ st hL .refl),"#=",(by obtain⟨od,ab,hl⟩:=I.look),"#>",(by have c':=GW c;rw[AH c']at st),"#?",(by have c':=DJ c;rw[AN c']at st),"!!",(by dsimp only;refine' DL.b5m (DL.Ka KX G ?g) ?a ?i ?l ?c ?k ?mm ?kc ?b;(case g=>k_is);(case a=>k_is);(case i=>k_is);(case l=>k_is);(case c=>k_is);(case k=>k_is);(case mm=>k_is);(case kc=>k_is);(case b=>exact λ_ _ _ _ _ _=>DL.Zk λ_=>rfl)),"!9",(by obtain⟨ob,eo,ec,ed⟩:=id g1;obtain⟨ot,yb,_,nt,yc⟩:=g2;unfold Builtin.SmallTypes.nextOf;refine AA (CM (name:=j4_) g1.typeIs FX (BX FX g1.typeIs F.entry_tuple_iterator_next ?_ (F.args_tuple_iterator_next_1 _)));show wpAny _ _ (field or_ 0>>=_) _ _ s),"!:",(by refine Gq b1! λv s1 ⟨x,H1,I1,r1,q1⟩=>?_;refine Gq f5_ λu s2 ⟨y,H2,I2,r2,q2⟩=>?_;exact hf v u s2 x y H2 I2 r1 r2 q2),"!=",(by intro O s Z H Q I h;refine W.methodCall_KW (pl:=pl) (Gq c0_ λu s1 ⟨x,H1,I1,rx,a,dx,fs,ex,ea,l,q⟩=>?_) ht;subst ex;obtain rfl:u=Value.ref a:=rx;refine aG I1 ea c hm l ?_),"!?",(by obtain⟨v,rfl,r1⟩:=Ho r;obtain⟨rfl,rfl,hM⟩:=Fb r1 e1;obtain⟨es,B,Y⟩:=((m.cell q.1 _ hM)).2;obtain⟨ys,g1,g2⟩:=qY Y),"!B",(by obtain⟨us,rv,p1,_⟩:=I.list qa;obtain⟨us',aj,p2,_⟩:=I.list qb;have B:=Ar rd;have Y:=Ar re;have h3:=gh!),"!C",(by show wpAny _ _ (Builtin.SmallTypes.ownedTupleIsFree dl_>>=_) _ _ _;refine AA ?_;unfold Builtin.SmallTypes.ownedTupleIsFree;refine AA (DP gz rfl (x:=.none) rfl ad_);simp only[CF]),"!E",(by show wpAny _ _ (field or_ 1>>=_) _ _ s;refine AA (DP eo ed (x:=.int n 0) rfl ?_);show wpAny _ _ (seqItems? (.ref tt)>>=_) _ _ s;refine AA (FI yb yc ?_);simp only[FN,g3]),"!G",(by rintro⟨⟨⟩,h1⟩ s' ⟨rfl,a1,a2,a3⟩;dsimp only;obtain⟨L',b1,b2,b3⟩:=gE jl hk fq a1 a3),"!K",(by intro O s Z H x y v u Q I rx ry h;obtain⟨i,j,rfl,rfl,q⟩:=h;show"!A";obtain⟨t',rfl⟩:=ry),"!L",(by show"!1";obtain⟨kb,ke⟩:=Ey J;obtain⟨kc,zc⟩:=kM bp;refine Qk (Bq.trans (congrArg some Qx)) ?_;refine ifT (Bq.trans (congrArg some uZ)) ?_),"!N",(by obtain⟨i,hi,q⟩:=Ya J;obtain⟨p,ds,vs,B,Y,h3,h4,h5⟩:=er.own_ i hi;rw[q]at Y;cases Y),"!O",(by have l1:=congrArg List.length e;have l2:=congrArg List.length e';simp[Rt]at l1 l2;omega),"!R",(by obtain⟨cl,bz⟩:=a8a (X:=X) (scope:=scope) λp hp hf=>I.ok.has p.1 (g9 p hp hf)),"!V",(by simp only[(show Builtin.Dict_items.ownsTuple "dict_keyiterator"=false by decide),BH,BW];show wpAny J! A.in1 (if(Value.ref d==cP_)=true then _ else _) _ _ s;rw[(AH (λz:(Value.ref d==Value.none)=true=>BC z))];refine AA (AC (AA (EJ sf sh ?_)));rw[T!]),"!X",(by have hT:=bd.typeIs;obtain⟨o,ho,hc,hd⟩:=id bd;obtain⟨od,sf,_,sh⟩:=id D),"!]",(by show wpAny _ _ (field dl_ 3>>=_) _ _ _;refine AA (DP gz rfl (x:=.ref TI) rfl ?_);refine AA (FI gI rfl ?_);show"!C";refine AA hf_),"!^",(by have I1:Inv X O Z H {s with heap:=h',toks:=tk}:=I.turned l8! f0 f1 f3 f4 f5),"!a",(by unfold wo;refine CY.mpr λq hq=>?_;simp only[ne_eq,decide_not,GM,DX,DV]),"!b",(by obtain⟨o,es,ep,ho,r⟩:=hm;refine ⟨o,es,ep,kp _ o ?_ ho,r⟩;simp only[AD,BQ,DK,GN];exact ⟨AI fz.2.1,AI fO.2.1,AI f1.2.1,AI f2.2.1⟩),"!d",(by obtain⟨gh,H3,I3,n3⟩:=q3;obtain⟨m',hm,w3⟩:=hN gh H3 n3;exact ⟨m',hm,gh,H3,I3,w3⟩),"!h",(by obtain⟨i,hi⟩:=FE.mp hv;obtain⟨d,_,p⟩:=Mw z hi;exact⟨_,_,p⟩),"!i",(by obtain⟨e,he,hv⟩:=hi.2 i acc[i] (by rw[BU B]);rw[he,EQ,BU B,hv];rfl),"!j",(by have:X.env.scope.names.lookup x=some .free:=hk;rw[k]at this;cases this),"!k",(by have hf:=a0i x k;have hl:∀i∈plc es dp!,i<es.size:=λi hi=>b4b hi),"!n",(by simp only[sliceBounds,HT.sIx,Option.getD_none,(show(1:Int)>0 by decide),CF];by_cases h:i<0),"!o",(by obtain⟨v,rfl,r1⟩:=Ho r;obtain⟨p,ys,rfl,q,rr⟩:=sN sub m r1 e1),"!p",(by obtain⟨hi,r1⟩:=r1;obtain⟨p,dx,vs,rfl,rfl,hH,hl⟩:=zU m1 q1 hi),"!r",(by show"!<";obtain⟨q,e2,e⟩:=AB.mp e;obtain⟨SD,e3,rfl⟩:=AL.mp e),"!s",(by obtain⟨e1,e2⟩:=B b J hr;obtain⟨e3,e4⟩:=Y b ns_ e2;exact ⟨e3.trans e1,e4⟩),"!u",(by intro x L;obtain⟨r,f,p',g1,g2,g3,g4,g5⟩:=hA.row x L;exact nz!),"!v",(by show"!9";refine AA (DP eo ed (x:=.ref tt) rfl ?_);show wpAny _ _ (if(Value.ref tt==cP_)=true then _ else _) _ _ s;rw[(AH (show¬((Value.ref tt==Value.none)=true)from BC))];show"!E"),"!w",(by obtain⟨_,_,_,_,o,_,_,e,ex,_⟩:=I.hok p _ hk;exact⟨o,e,ex⟩),"!}",(by show"!1";refine Qk (Bq.trans (congrArg some Qy)) ?_;refine Qk (Bq.trans (congrArg some Pl)) ?_;refine ifT (Bq.trans (congrArg some vA)) ?_),"!~",(by show (wpAny _ _ (field dl_ 2>>=_) _ _ _);refine AA (DP gz rfl (x:=.bool false) rfl ?_);show"!]";refine AA (DP gz rfl (x:=.ref TO) rfl ?_);refine AA (FO gz d_ λB k9 b6=>?_)),"#*",(by show o0_=_;rw[AH h0,AH B,AH Y,AH x3,AH x4,AH x5,AH x6]),"#+",(by obtain⟨oc,od,kV,bn,pm,an,af,ct,dt,rfl,lk,bv⟩:=F.ex),"#,",(by have rs:∀j∈rest,j<es.size:=λj hj=>Y j (AE _ hj)),"#-",(by subst hj;rw[hi]at e1;cases e1;rw[CO J']at e2;cases e2),"#1",(by unfold pyNext;refine AA (HA (CM (name:=j4_) hT DB (BX DB hT IK ?_ (IG _))));refine AA (AC (AA gs_))),"#2",(by have ne:∀{b u},H b=some u->b≠p:=λe=>Ej e hp),"#4",(by rw[AJ,AJ,<-h3,<-h4,<-B,<-Y];by_cases hl:f_=ag!),"#5",(by obtain⟨its,rv,⟨o,B,Y,n,h3⟩,_⟩:=I.tuple g3_),"#7",(by obtain⟨B,Y⟩:=hA.mq i hi;rw[aw _ pn!];exact pf!),"#:",(by show"!4";obtain⟨a,ws,rfl,q,rr⟩:=Da rv;cases e),"#<",(by rename_i kvs ep hM;obtain⟨kk,e1,e2⟩:=AB.mp e),"#@",(by simp only[Op.nm,D.tup.injEq,GS,D.int.injEq]at e),"#A",(by rw[cG le!,cG le_];exact a6a (mm p hp) (mm q a7)),"#D",(by have hi:i=fj_:=Nat.le_antisymm st.1 hg;subst hi),"#E",(by cases Iz ry;cases e;refine j_;rw[qF rx];show"!q"),"#F",(by obtain⟨ad,kvs,vs,jx,LF,xz,ya,hn,hs⟩:=hd.ex),"#G",(by cases e;refine ⟨G,ρ,_,er,?_,k⟩;show((Option.some ds)).bind _=_;simp[hl])]
def z'0:String:=z [a!,(by omega),b!,List D,c!,(by decide),d!,Inv X O Z H s,e!,Ag->Option D,g!,⟨rfl,rfl,rfl,fW_,rfl,fW_,fW_⟩,h!,List Value,i!,wl i_,j!,AN rfl,k!,List Nat,l!,List Op,n!,List ew!,o!,Af E_,p!,List Str,q!,s.heap.objs.size,r!,(by decide+kernel),u!,wl w!,v!,Af al!,w!,Aa 1,x!,some bq!,y!,Aa 2,z!,Dr 3,A!,Str->Option Value,B!,Cr 0,C!,some ae_,D!,s1.heap.objs.size,E!,.dct [] 0,F!,wl y!,G!,(x==("__debug__":Str))=false,H!,Aa 5,I!,(by simp),J!,model P w,K!,[ak!,ar!],L!,.lst xs,M!,Af aC_,N!,some x0,O!,s2.heap.objs.size,P!,Ck w_,Q!,some D_,R!,fC bv!,S!,k+1,T!,AH d_,U!,.str k,V!,[az_,bd_],W!,oF a1 a2 a3 a4 a5 a6,X!,List D->Option D,Y!,(a,b),Z!,ys.length,Aa!,λ_ _ z=>z,Ab!,Str.ofString "taken",Ac!,Str.ofString "waiting",Ad!,(Str.ofString "taken",.fn ta),Ae!,ys.toArray.filterMap id,Af!,Cc (d:=kQ_) rfl,Ag!,Cc (d:=.int 1) rfl,Ah!,.obj t.B3 [fL_],Ai!,mup_ne (AI wp),Aj!,l.filter λx=>Vb x q,Ak!,.obj t.B3 k1_,Al!,λp=>Rg p2_ (Wu h p.1),Am!,(by rw[hp];simp),An!,⟨[a],[(Str.ofString "key",v)]⟩,Ao!,Hm t.B3 "outline" i! b2! hL_ M2 _,Ap!,mup_ne (AI aw),Aq!,.dct (fM!++Ap_) bb!,Ar!,(c,seqObj "list" ku.toArray n),As!,Cc (f:=Aa 0) rfl,At!,∀H':Hp,H' c=none->Qs X O H' c,Au!,Inv X (O++[lb_,At_]) Z H s,Av!,ksk_tail a false e1 (.ref c) st,Aw!,Obj.mapSeq λ_=>(#[]:Array Value),Ax!,List.map_fst_zip p9!,Ay!,λv hv=>?_,Az!,λx y F Q L hy hq=>?_,AA!,(by rw[hsz];omega),AB!,⟨a1,a2,a3⟩,AC!,Rg hQ! (Wu s.heap p.1.1)<Rg hQ! (Wu s.heap q.1.1),AD!,(by rw[b3,hd]),AE!,⟨_,HZ ha λ_=>#[]⟩,AF!,seqEpoch_at sw rfl ?_,AG!,CP _ _ (λz=>J (by rw[z];exact AT.mpr rfl)),AH!,(by simpa using hl),AI!,[q_,Q!,aX!,hn!,y4]]
def z'00:String:=z [a_,(·.1),b_,Or.inl rfl,c_,hr.mono c!,d_,(by simp),e_,model X.prog X.w,f_,ds.length,g_,Txt P w K mg t,h_,List ay!,i_,Aa 0,j_,⟨rfl,?_⟩,k_,xs.length,l_,List V,m_,Fl->Mh->Prop,n_,model prog w,o_,["thing"],p_,Value->Shared->Prop,q_,some cB_,r_,Be _,s_,λ_ _=>rfl,t_,(by omega),u_,D->Mh->Prop,v_,fC aZ_,w_,Ax.units hr,x_,BB _,y_,arrOf h1,z_,arrOf st,A_,List Int,B_,(·.2),C_,.bl true,D_,.fn p,E_,Ab 0,F_,fC I_,G_,Aa 3,H_,some i,I_,.int 0,J_,os.map Op.v,K_,⟨_,rfl⟩,L_,Aa 4,M_,Cv G H,N_,List α,O_,(by rw[hA.ro];simp),P_,some x1,Q_,λ_=>True,R_,Gl X x,S_,ps.length,T_,[aV!,aK_],U_,some (scr ns),V_,f2 Aq i_ F_,W_,DE X own a fa,X_,Dt M w rl W,Y_,.bl false,Z_,(by decide),Aa_,Str.ofString "ours",Ab_,qN (AC (AC (AC h))),Ac_,(∀x∈xs,∀(R:β->Shared->Prop),(∀y,F x y->R y s)->wpAny n_ A (f x) R E s),Ad_,λv hv R hR=>?_,Ae_,(Value.type "int"::r),Af_,Kq bX_ (hA.nob hM1) (Cc (Zx o)) (vN hA),Ag_,Cg M a (.obj t.B3 []),Ah_,.obj t.B3 k1!,Ai_,l.filter λx=>Vb x p,Aj_,(by show _<100;simp),Ak_,mup_ne (AI JT),Al_,Cg fN_ p (.dct (Bk kvs y bB!) bb!),Am_,B.mem_iff.mp (DH cr),An_,.lst ((k7!).map Op.v++[o.v]),Ao_,mup_ne (AI at_),Ap_,[(.int o.h,.fn q)],Aq_,Ks X.prog X.w X.K X.mg X.base iR k f fd ps vD!,Ar_,[q_,none,none],As_,hR M' g7 g8 iq,At_,(c,seqObj "list" ku.toArray e),Au_,[q_,P_,some es_,ag_],Av_,(by rw[<-e];exact hl),Aw_,IJ ha rfl ?_,Ax_,Array.toList_inj.mp,Ay_,Wu s.heap p.1,Az_,⟨Array.Perm.refl _,rfl,rfl,rfl⟩,AA_,(by rw[hsz];exact m7),AB_,some (.inr [.inl o.h,.inl o.n]),AC_,Cg M p (.dct (p9_++[ld!]) bb!),AD_,s.heap.get? a=some (seqObj "list" us.toArray n),AE_,GT ha rfl ?_ la! cj!,AF_,wpAny_newTuple ?_ (by show ap_<=_;rw[CI];omega),AG_,AG _ ((AG!).trans q),AH_,qs.map Op.nm]
def z'a:String:=z [aa!,Ag->Option Bool,ab!,AN a!,ac!,.ref a,ad!,q!+1,ae!,List dX_,af!,.tup T_,ag!,es.length,ah!,.fn a,ai!,[a,b],aj!,f ρ,ak!,"self",al!,Ab 1,am!,⟨#[c]⟩,an!,Ag->Option aL_,ao!,A.units<cLine,ap!,rs.length,aq!,List Addr,ar!,"name",as!,fC aA_,at!,.ref C,au!,Er t M o rl W hb,av!,(by rw[hA.r6];simp),aw!,s.length,ax!,some (.lst ops),ay!,D×D,az!,kvs.length,aA!,[bH!],aB!,At (λ_ _ h=>Bp h),aC!,r.length,aD!,Ab 3,aE!,AH hk,aF!,(by rw[u4];simp),aG!,.nx ρ,aH!,.inl rfl,aI!,Av An Au E_ Ae s_,aJ!,Ac u! Ak,aK!,Rt xs,aL!,(by rw[hA.r5];simp),aM!,Ev.refl sub,aN!,List ci!,aO!,its.toArray,aP!,[ak!,bd_],aQ!,Ac i! Ak,aR!,Af aD!,aS!,.fn r,aT!,some x,aU!,(by rw[hA.r4];simp),aV!,.int h,aW!,Re ops,aX!,some bB!,aY!,"_law_k",aZ!,Ad i_ Ao,a0!,PE X a ta,a1!,λ_=>some true,a2!,wl F_,a3!,f2 Aq y! as!,a4!,.type "str",a5!,Option Addr,a6!,.lst ys,a7!,λx L=>?_,a8!,Lz W n rows',a9!,[none]]
def z'aa:String:=z [aa_,List DictEntry,ab_,Array Value,ac_,Fc 0,ad_,AC ?_,ae_,.fn o,af_,D->Ag->Option Ag,ag_,some o.v,ah_,.ref f,ai_,l.length,aj_,(by rw[u3];simp),ak_,X.N[i]?=some x,al_,starEach aI_ X.env=eQ!::starEach es X.env,am_,λi hi=>(by cases hi),an_,some kt!,ao_,W.txt a,ap_,us.length,aq_,List Env,ar_,[az_,cq!],as_,Dl w_,au_,(by rw[hA.r2];simp),av_,Option D,aw_,.str s,ax_,os.length,ay_,ME X own a fa,az_,"hand",aA_,.int 3,aB_,At aB!,aC_,Ab 2,aD_,Ab 5,aE_,W.txt x,aF_,(by rw[u5];simp),aG_,X.A.units+64<cLine,aH_,EP X O Z Q,aI_,(e::es),aJ_,Af Ae,aK_,.int n,aL_,List D,aM_,Ag->Option Fl,aN_,Ge x=some k,aO_,[ak!],aP_,wl G_,aQ_,Aj v! Az,aR_,(q9!).any a_=false,aS_,x∈W.its,aT_,(by rw[hA.r3];simp),aU_,⟨trivial,?_⟩,aV_,D->D->Option D,aW_,some hm_,aX_,[fY!],aY_,"_law_item",aZ_,.int 1,a0_,I.tok _,a1_,wl L_,a2_,Av An Au aC_ Ae s_,a3_,Dr 2,a4_,AN hk,a5_,Option Int,a6_,.type "list",a7_,(x,p),a8_,.fn o,a9_,(λ_ _ e=>by cases e)]
def z'b:String:=z [ba!,i+1,bb!,ep+1,bc!,.tup xs,bd!,Cc (d:=x) rfl,be!,X.calm=true,bf!,Do P! Cj o! be_ s_,bg!,[dQ_],bh!,.Call (.Name x p) aI_ [] pos,bi!,its.toArray.size,bj!,List e3_,bk!,hb+20,bl!,λb h=>?_,bm!,Or.inr rfl,bn!,.Name x b8,bo!,Ge d=some k,bp!,Mh->D->D->Option D,bq!,.fn w,br!,Ek t M a ta wa out S kl ca,bs!,fs.length,bt!,[az_],bu!,Loc X.env.scope x,bv!,.int 2,bw!,Qj false,bx!,Aa 7,by!,g i j,bz!,vs.length,bA!,⟨_,_,rfl⟩,bB!,.fn q,bC!,.type "bool",bD!,(by rw[v3];simp),bE!,Mh->Prop,bF!,k _ _ aH! e,bG!,[az_,lC_],bH!,"_law_ops",bI!,.int i,bJ!,Bz u!,bK!,[cU_],bL!,λb J=>?_,bM!,My w_,bN!,[D.non],bO!,W.num x,bP!,K w.params,bQ!,Addr->fU,bR!,.int m,bS!,.ref σ,bT!,some s,bU!,λd hd=>?_,bV!,Fu X.K G d u,bW!,ME X own e f,bX!,Rs P w K own M0 G0 F0 M G H Z ρ,bY!,AT.mp z,bZ!,[q_,P_,x!,aT!],b0!,[cq_,aY_],b1!,ha O s Z H _ I h,b2!,wl cg_,b3!,Aa 8,b4!,.str "undo",b5!,wl eI_,b6!,Jz (Co as_ Dm a2_ Bi r_),b7!,.ref p,b8!,Array sw!,b9!,ns.map V.int]
def z'bb:String:=z [ba_,List MK,bb_,((k:Nat):Int),bc_,OS t M a o rl W,bd_,"item",be_,Af Bi,bf_,Ab 4,bg_,Aa 9,bh_,w2 Dz i! mM!,bi_,u++v,bj_,W.txt i,bk_,some af!,bl_,i∉own,bm_,.rt d,bn_,some (.int most),bo_,.int o.h,bp_,mup_ne J,bq_,[N!,H_,cc_,bT!,fB!,ks!,y],br_,mixKind P w,bs_,dJ P w H h,bt_,X.N.Nodup,bu_,Ds v u,bv_,.int i,bw_,Aa 6,bx_,f2 Aq y! F_,by_,Af a2_,bz_,Af bf_,bA_,Ah st,bB_,.type "int",bC_,.type "tuple",bD_,[ag_],bE_,[x!,N!,some ee!,bk_,some (.bl g),none,none,none,none,none],bF_,[cq!],bG_,"_law_script",bH_,List Expr,bI_,.bl b,bJ_,I.ok.hd hc,bK_,⟨rfl,rfl⟩,bL_,Ab 6,bM_,Jh I q d_,bN_,(i,p),bO_,Array DictEntry,bP_,Gf st,bQ_,(by rw[hA.r1];simp),bR_,.int 0,bS_,M p=some hx!,bT_,some (.int m0),bU_,[P_,Q!,ag_],bV_,u.length,bW_,MR X.prog X.w X.K M G H,bX_,Cc rfl,bY_,Cc (d:=ah!) rfl,bZ_,[az_,bd_,"place"],b0_,List Stmt,b1_,Ai E_ Aw,b2_,.ref it,b3_,(by simp;omega),b4_,Ad y! Ao,b5_,Oy w_,b6_,Ml X (compareOp op) r,b7_,Ax k X.A,b8_,vs.toArray,b9_,absurd z.symm q1]
def z'c:String:=z [ca!,(by rw[q];simp),cb!,W.rows.length,cc!,mup_ne B,cd!,aL X scope cl C gN! ak a8 fp,ce!,.tup jy!,cf!,OR K own G H Z ρ,cg!,f ρ=some d,ch!,AE _ L,ci!,Str×D,cj!,CG _,ck!,Ge y=some k,cl!,l[j],cm!,q1.mono x2.g,cn!,.fn w,co!,Array Keyed,cp!,(s.heap.update a Aw!).push (seqObj "tuple" us.toArray 0),cq!,"operation",cr!,o.h==k,cs!,X.mg x=none,ct!,PE X e te,cu!,Af Gv,cv!,List V->Hp->VK->Prop,cw!,y.length,cx!,.inl z,cy!,backToKw ac sW_,cz!,im x,cA!,mup_ne Y,cB!,Bb K H ds vs,cC!,H p=none,cD!,Bn K G d v,cE!,.Name x p2,cF!,(by rw[v5];simp),cG!,some item,cH!,.type "tuple",cI!,x1.trans x2 m1,cJ!,.lst [],cK!,ME X own o fo,cL!,acc.length,cM!,((i:Nat):Int),cN!,[x!,N!,ze_,fE_,y4,some kL!,hz!,ks!,none,none],cO!,λx L hh=>?_,cP!,some qb!,cQ!,(by simpa using e),cR!,α->β->Prop,cS!,BF e,cT!,Unit->Shared->Prop,cU!,[bG_,aY!],cV!,.inl rfl,cW!,List V->Hp->Prop,cX!,Ca R!,cY!,(x==("__classdict__":Str))=false,cZ!,fC (.int 4),c0!,Bs t.B5 "following" i!,c1!,⟨rfl,rfl,rfl,rfl⟩,c2!,∀x,foldedSetIterable iter X.env x=pure x,c3!,Hc 3,c4!,ps.zip us,c5!,⟨us,[]⟩,c6!,.ref q!,c7!,dF _ _ e5_,c8!,⟨_,e,rfl⟩,c9!,Str.ofString "rows"]
def z'cc:String:=z [ca_,⟨rfl,h⟩,cb_,scope.names,cc_,some p,cd_,.lst ds,ce_,some nF_,cf_,ρ.set i d8_,cg_,fC .non,ch_,some oc!,ci_,[aV!,d6_],cj_,[hk!],ck_,Ab 8,cl_,MR P w K M G H,cm_,M a=some hx!,cn_,W.its.map λi=>(i,D.lst kx_),co_,SB kd a0 st,cp_,seqObj "list" #[] 0,cq_,"_law_world_here",cr_,PE X b tb,cs_,x≠"__name__",ct_,Bs t.B4 "rows" i!,cu_,Ab 9,cv_,Ac i! aJ!,cw_,Aj o! Az,cx_,λx=>!x.1,cy_,λx=>x.1.isSome,cz_,Lb W x,cA_,us.toArray,cB_,.fn a,cC_,cs.length,cD_,DE X own b fb,cE_,(by rw[v4];simp),cF_,n+1,cG_,Ct d=true,cH_,λz=>?_,cI_,ME X own b fb,cJ_,[some eo_,aT!],cK_,Cg M p E!,cL_,.nx ρ',cM_,[some hC_,kM_],cN_,sE W hb,cO_,Fu X.K G,cP_,Value.none,cQ_,h.objs.size,cR_,upd H a o,cS_,[ak!,bd_,"parent","sibling"],cT_,"_law_number_here",cU_,"_law_one",cV_,[cq_,aY_,q1_,q3!],cW_,Cw (fC Y_),cX_,Vis X.env.scope x,cY_,.Name x pos,cZ_,Ad w! Ao,c0_,he O s Z H _ I h,c1_,.ref q!,c2_,ns.length,c3_,Cn T.U4 T.U5 o!,c4_,vs++dvs,c5_,items.size,c6_,dF _ _ jp!,c7_,m8_=true,c8_,(s,p),c9_,Gn X scope NF ix]
def z'd:String:=z [da!,scope.kind=.function,db!,X.pn++O,dc!,.int j,dd!,.lst vs,de!,er.grow s1,df!,s1.trans s2,dg!,Ge a=some ka,dh!,some n,di!,.Name x p2,dj!,(.str k::r),dk!,Str.ofString "",dl!,Jb d d',dm!,shn W x,dn!,jQ_<64,do!,λx L=>fr!,dp!,mkHash P w k,dq!,kget kvs d,dr!,az!<big,ds!,[N!,H_,cc_,bT!,fB!,hz!,ks!],dt!,(by rw[AW];unfold big;omega),du!,dE d es ep,dv!,some er!,dw!,hF ta wa out,dx!,Hist ms,dy!,Str×V,dz!,List β,dA!,X.s₀.heap.objs.size,dB!,some v,dC!,["sign"],dD!,f1 Dd aZ!,dE!,f2 Aq i_ R!,dF!,behindInMarks op b=false,dG!,.Compare a [op] [b] pos,dH!,Jp Ae,dI!,Nat->Heap->Prop,dJ!,Ai aC_ Aw,dK!,BD _ rfl,dL!,Bz F!,dM!,Am (Cq eK!),dN!,Hk w!,dO!,.dK kvs,dP!,Am (Cq v!),dQ!,Cls X.K C,dR!,Ks X.prog X.w X.K X.mg X.base CX k f fd ps sp,dS!,Ci dvs ds,dT!,.str "rows",dU!,Am Oc,dV!,.ref b,dW!,([]:List Keyword),dX!,kput_len _ _ _,dY!,wo rows i,dZ!,As N ps bA_,d0!,Str.ofString "texts",d1!,.lst gJ_,d2!,AE _ hy,d3!,(by rw[hr];simp),d4!,(by rw[g5];simp),d5!,aL X scope cl G2.objs.size gN! s2 H2 fp,d6!,List.range m.toNat,d7!,(d::ds),d8!,some b,d9!,i∈own]
def z'dd:String:=z [da_,∀y∈cb_,y.2≠.cell,db_,(by rw[g3];simp),dc_,.tup ds,dd_,.str s,de_,DE X own e f,df_,wl fo,dg_,if Lb W a then a else binn,dh_,[C!,dh!,some a,d8!,some pl],di_,scr ns,dj_,AN g7_,dk_,λb h=>.inl h,dl_,.ref z,dm_,⟨by simp[big];omega,?_⟩,dn_,[P_,Q!,aX!,ag_,hn!],do_,Od ks k,dp_,(d,x),dq_,Addr->LR,dr_,rs[k],ds_,[x!,H_,aT!,bT!],dt_,λc=>?_,du_,a1h prog w A s a0 kd r,dv_,arrOf bf,dw_,Int×Int,dx_,.int i t,dy_,a==sysModules,dz_,FK _,dA_,[ah!,x],dB_,[q_,aT!,some lv_],dC_,Bool->Hp->Prop,dD_,f2 Aq i_ v_,dE_,.str x,dF_,.fn t.A0,dG_,.str "cut",dH_,eval o X.env,dI_,f2 Aq y! R!,dJ_,Ab 7,dK_,(false,eval a X.env),dL_,Bs t.B3 "taken" i!,dM_,Ac i! l0_,dN_,xs.isEmpty,dO_,Sem Bool,dP_,List (Str×Value),dQ_,.ref a,dR_,Jx X.K fd ps ds,dS_,Xm CX X E,dT_,Bz mL_,dU_,Aj o! aQ_,dV_,z.length,dW_,Iq t M r f p xs,dX_,D×D×Bool,dY_,a∈W.its,dZ_,Str.ofString "parents",d0_,[a8_,x],d1_,AN b3_,d2_,i∈W.its/\Lb W x/\¬Wn W.rows i x,d3_,(by rw[g4];simp),d4_,λq hq=>?_,d5_,.tup js_,d6_,.int m,d7_,sgn h n,d8_,some d,d9_,s.cps.toList.zipIdx.map d7_]
def z'e:String:=z [ea!,.lst vm!,eb!,.dct (Bk k4 n bB!) e4,ec!,k _ G H aM! Bn.int,ed!,λd hd=>?_,ee!,.tup [jO!,a,b],ef!,Bn X.K H d v,eg!,DQ ..,eh!,.tup dj!,ei!,λ_ K hK=>?_,ej!,(oJ!).Nodup,ek!,Bool->Shared->Prop,el!,(none,()),em!,[P_,C!,aX!,some x.v,some x.nm],en!,.int o.tm,eo!,A.units+1<cLine,ep!,rs.map Cp,eq!,hb<3800,er!,.lst J_,es!,Qh g,et!,xs++ys,eu!,es.map kn_,ev!,.int lo!,ew!,Addr×Obj,ex!,Cc (d:=cn!) rfl,ey!,"_law_deed_here",ez!,eval e X.env,eA!,.BoolOp .And (b::rest) pos,eB!,.BoolOp .Or (b::rest) pos,eC!,.UnaryOp .Not a pos,eD!,Ac F! Ak,eE!,Cn T.U2 T.V4 o!,eF!,Bs t.B4 "texts" i!,eG!,⟨_,dK!,rfl,rfl⟩,eH!,.int j,eI!,.str "put",eJ!,Value->Value->Sem Value,eK!,Af Kd,eL!,(show false=true from hs),eM!,wl se!,eN!,.int n,eO!,s.heap.push iG!,eP!,.ins C dx fs,eQ!,(false,eval e X.env),eR!,us++ds,eS!,Em (Ay 1 Ic aQ!),eT!,Ca H!,eU!,CD gA!,eV!,.type T,eW!,Aj o! mn!,eX!,Sf aK!,eY!,Bk kf a0 n,eZ!,⟨.bl _,H,I,rfl,?_⟩,e0!,if(dW!).isEmpty then 0 else 1,e1!,⟨e,?_⟩,e2!,D×D×Bool,e3!,Str.ofString "numbers",e4!,.lst bO!,e5!,⟨1,?_⟩,e6!,Ge i=some ki,e7!,.int x,e8!,(by rw[q3];simp),e9!,upd H p o]
def z'ee:String:=z [ea_,Cg (Cg M5 a3 nM!) q ea!,eb_,Po X.K r g,ec_,k _ G H aM! Bn.bl,ed_,(by simp;omega),ee_,.tup [.str "cut",a,.tup js_,d6_],ef_,Sum.inr y,eg_,q2 ρ M R,eh_,AN (by simp only[AR];omega),ei_,ops.map Op.v,ej_,some o.v,ek_,Tn P w s.heap k u,el_,{s with toks:=tk},em_,l.map a_,en_,.fn wn,eo_,Cp q,ep_,(ao_).map Cm,eq_,j - 1,er_,(a,oa),es_,.int k,et_,List dy!,eu_,(fT!).zip ds,ev_,[a,b,c],ew_,λp hp=>?_,ex_,Z.set i dB!,ey_,Ci vs us,ez_,[U_,dv!,q_,dv!,none],eA_,.BoolOp .And (a::b::rest) pos,eB_,.BoolOp .Or (a::b::rest) pos,eC_,Bw (Df Kd),eD_,cQ i,eE_,[v,ov,iv],eF_,λ_ _ _ _ _=>Ce (i:=0) (show(bK!:List Str).Nodup by decide+kernel) rfl b_,eG_,Ba 2 Jk,eH_,Ba 4 (wl (Ji G_ Cb cX!)),eI_,f2 Aq y! v_,eJ_,binaryOp .Add,eK_,Bs t.B3 "waiting" i!,eL_,Av An Au al! Ae s_,eM_,x.length,eN_,some ah_,eO_,Cn T.U3 T.U8 o!,eP_,backToKw pos sW_,eQ_,Dr 6,eR_,PA X aI_ t,eS_,f1 Dd gg!,eT_,A.handled=none,eU_,.builtin id,eV_,Ca bw_,eW_,Bk l d v,eX_,λa b=>?_,eY_,Bk kp n a0,eZ_,.inr rfl,e0_,its.length,e1_,.ref fa,e2_,Cv H H',e3_,Str×Addr,e4_,List uM_,e5_,.inr z,e6_,hb+1,e7_,.int y,e8_,V.ref a,e9_,Cv.refl G]
def z'f:String:=z [fa!,Uv own Z G H,fb!,fa ρ,fc!,sub.free hp,fd!,f1 ρ=some a,fe!,⟨G,ρ,_,er,e1,vw_⟩,ff!,.tup v1!,fg!,.int (i:Nat),fh!,Hi N,fi!,some 1,fj!,(by show A.units+1+Gz xs<cLine;omega),fk!,WOk W pre,fl!,Option Value->Shared->Prop,fm!,[z,TO,i1,i2],fn!,(aW!).map Op.v,fo!,Fj _,fp!,h.Ns mainGlobals mg,fq!,List a1d,fr!,(by simp[W0]at L),fs!,AU d_,ft!,.fn a1,fu!,λi hi=>?_,fv!,Os P w K G kvs es,fw!,.int (k:Nat),fx!,some (.lst ym!),fy!,W.rows.map Cp,fz!,qa i,fA!,h3.typeIs,fB!,some (.lst ep!),fC!,Ge y,fD!,[x!,aT!,H_,y],fE!,W.its.length,fF!,some ff!,fG!,[x!,N!,some ee!,bk_,none,none,none,none,none,none],fH!,(by unfold B60;omega),fI!,⟨_,i1,aJ B⟩,fJ!,Hist os,fK!,wpS_get ?_,fL!,(show i=j by omega),fM!,kl.map λh=>(D.int h,D.fn hK!),fN!,List hM!,fO!,L'.length,fP!,ms.map Op.v,fQ!,a==b,fR!,tupleKind br_,fS!,.ref x,fT!,us.zip us,fU!,Bt (Ej q hn),fV!,List α->Prop,fW!,Z.length,fX!,["thing","limit"],fY!,"operations",fZ!,[ak!,ar!,bd_],f0!,[ak!,bd_,"place","number"],f1!,(by simp[z]),f2!,[ak!,fY_],f3!,Cc (d:=q1) rfl,f4!,"_law_hand",f5!,fC (.int 16),f6!,.str "root",f7!,[bT!,dv!,q_,cP!,cP!],f8!,PT X a tA,f9!,.bl true]
def z'ff:String:=z [fa_,Ev.refl er.sub,fb_,fs ρ,fc_,if x=n then _ else _,fd_,(λz=>nomatch z),fe_,SR K own G0 F0 G H Z ρ,ff_,.int 9,fg_,V.ref p,fh_,some (.lst kinds),fi_,Ct d'=true,fj_,x.cps.size,fk_,h5.objs.size,fl_,.Tuple jh n1 tp,fm_,λ_=>true,fn_,.bl hj_,fo_,K.In h,fp_,wl fb,fq_,(ki!).Nodup,fr_,BJ rfl,fs_,[root,binn],ft_,Dk dZ_ ft! [],fu_,kvs.map a_,fv_,Qi kvs,fw_,Bool->Mh->Prop,fx_,some cJ!,fy_,.fn wt,fz_,Fg h5,fA_,cb!<5000,fB_,eqW X.K H dx,fC_,[x!,H_,cc_,bT!,fB!,hz!,y],fD_,st.grow x1 m1,fE_,some nm,fF_,[some hC_,fF!,bk_],fG_,[P_,x!,Q!,some x.v],fH_,(t.A0,a),fI_,Jn B,fJ_,Keyed->Int,fK_,n<=a0.size,fL_,(Str.ofString "ours",.int 3),fM_,((k7!).length:Nat),fN_,Cg M q cJ!,fO_,AS _ (AS _ d_),fP_,Fu K G,fQ_,Ci xs us,fR_,.own a,fS_,us.toArray.zip cA_,fT_,((eu_).map B_).map aQ,fU_,.frz o u,fV_,[q_,aT!],fW_,(by decide+kernel),fX_,["parts","checks"],fY_,"other",fZ_,[ak!,bd_,"parent"],f0_,[h4_,ar!,"deed"],f1_,[ak!,"ours"],f2_,[az_,fY_],f3_,[lF_,cT_],f4_,fC es_,f5_,J O s1 Z H1 _ I1 q1,f6_,fC f6!,f7_,[U_,none,none,none,none],f8_,Pp t,f9_,Eh Ff Jj rfl T.R0 Jd b1_]
def z'g:String:=z [ga!,X.wish E,gb!,λ_ _ _ _ _=>yL,gc!,Ba 1 ij!,gd!,some x,ge!,Ai al! Aw,gf!,wl b3!,gg!,Ad L_ Ao,gh!,rv.length,gi!,(by simpa using J),gj!,Ai rK! Aw,gk!,f2 Aq a3! F_,gl!,((0:Nat):Int),gm!,wl dI_,gn!,.str "write",go!,i.natAbs,gp!,Af iy!,gq!,Af eL_,gr!,i != 0,gs!,λ_ _ _ _ _=>zD,gt!,Ad V_ (Ad dD_ Ao),gu!,fC (.int 5),gv!,Aj M! Az,gw!,getMethod ov m pl,gx!,PA X es t,gy!,I.hok.fresh x_,gz!,envOfC qual scope s.heap.objs.size f cd,gA!,(by simpa using hi),gB!,.int a t,gC!,Qz t,gD!,Cn T.U2 T.V5 o!,gE!,.str am!,gF!,eqU x,gG!,absurd z.symm q2,gH!,.bool true,gI!,i∈W.its,gJ!,W.keepIn K ah_=true,gK!,NameKind.free,gL!,x∈W.its,gM!,AN gL_,gN!,NL++NF,gO!,.ListComp db uX_ scope pos,gP!,w.nm i hi,gQ!,hb<3900,gR!,∀y∈cb_,y.2=.free->u2_,gS!,(by simp[e]),gT!,(by rw[q4];simp),gU!,Bn K H d v,gV!,.tup T_,gW!,.dct nL! e2,gX!,mup_ne h6,gY!,r1.mono s2.g,gZ!,ft ρ,g0!,DA X own aI_ fs,g1!,Lz W x rows',g2!,.obj C fs,g3!,.type "NoneType",g4!,λx gq hy=>?_,g5!,(aC!:Int),g6!,.tup [oa_,a,b,c],g7!,er.grow x,g8!,(backTo ac tb_).any a_=false,g9!,nT F0 G1]
def z'gg:String:=z [ga_,wlS (Vn 1 Ao),gb_,Fj (Fx (fT if_) (fT l0!)),gc_,Dy t,gd_,Af aI!,ge_,PassesOwn e_ X.A X.env X.xe,gf_,It->Hp->Prop,gg_,wl (fC C_),gh_,λρ M R=>R true M,gi_,Sg T,gj_,Co as_ Dm cu_ Bi r_,gk_,2 ^ 62,gl_,Ad G_ Ao,gm_,Ac b5! (Ac gm! (Ac (wl a3!) Ak)),gn_,(∀b∈fp,H' b=none),go_,Bs t.B3 "outline" i!,gp_,Af l8_,gq_,Aj by_ (Aj by_ iy_),gr_,List (κ×V),gs_,AA ?_,gt_,λ_=>rfl,gu_,Am (Cq M!),gv_,ag.atName,gw_,Ax k A,gx_,Ax S! X.A,gy_,wl (fC dT!),gz_,Ys N vs,gA_,w2 bw! b5! bh_,gB_,f2 Aq w! R!,gC_,a0t xs lo hi,gD_,.str am!,gE_,Mn l d,gF_,[.ref p],gG_,K.f _ _,gH_,nY rows i p s rows',gI_,vM ai.heap H,gJ_,chl W.rows x,gK_,pO t M o rl W hb a1 a2 a3 a4 a5 a6 k1 k2 k3 k4 k5 k6,gL_,(by rfl),gM_,bz.sub x c h,gN_,(λr M'=>match r with|.rt d=>R d M'|.nx _=>R .non M'),gO_,G2.objs.size,gP_,.tup js!,gQ_,[e7!,e7_,.int (z+(k:Nat))],gR_,∀cl C ak a8 fp,PG cd! tg g,gS_,fg _ I2.lt,gT_,(by rw[q5];simp),gU_,ρ.length,gV_,s.cps.toList.length,gW_,(by rw[z]),gX_,λ_ _ _ h=>h,gY_,s2.trans s3,gZ_,DT X own a ft,g0_,Ev.laid sub hp,g1_,if x=x then _ else _,g2_,f2 ρ=some b,g3_,Dj sub q,g4_,.int k,g5_,Ev.laid x.sub hp,g6_,.tup [.str "drop",a],g7_,(by unfold big;omega),g8_,cs.map λc=>(am!:Str),g9_,ds.map some++List.replicate (iQ_ - f_) none]
def z'h:String:=z [ha!,(if _<=big then _ else none)=_,hb!,Bb X.K H es ws,hc!,Bn X.K H d' v',hd!,.Name y py,he!,s.cps.toList.zipIdx.map kX!,hf!,s.heap.IsTuple l2 ys,hg!,⟨hp,g,d,tk,os⟩,hh!,λc hc=>?_,hi!,λK hK=>hK,hj!,.int o.h,hk!,.lst ei_,hl!,λx L=>hd x ch!,hm!,fX .str aW! [],hn!,some o.nm,ho!,(show u=.none from L),hp!,ks.Nodup,hq!,Dk c9! hp_ ft_,hr!,Yn ks k,hs!,fV s.heap a es ep,ht!,(x::os),hu!,f ρ M R,hv!,MA X own es fs,hw!,MT X own a ft,hx!,.dct kvs ep,hy!,eC I sub r hk,hz!,some (.int (a:Nat)),hA!,MA X own aI_ fs,hB!,Ip M1 d,hC!,Aa 0 ρ=some bq!,hD!,.lst cm,hE!,some (Cm q),hF!,Cg M p (.dct (Bk kvs y v) (Lq kvs y ep)),hG!,Lx own Z H1,hH!,mup_ne a1,hI!,a0.toList,hJ!,x - 1,hK!,ca h,hL!,some (.int h),hM!,Int×Int,hN!,ku.zip us,hO!,seqObj "list" us'.toArray n',hP!,Ek t M a ta wa out [] [] ca,hQ!,((hP_).map B_).map es!,hR!,kT_<64,hS!,seqObj "list" us.toArray 0,hT!,Rc iM ms,hU!,Int->Bool,hV!,acc.toList,hW!,∀b u,h.get? b=some u->h'.get? b=some u,hX!,.own x,hY!,seqObj "list" (eu!).toArray 0,hZ!,vM h H,h0!,I.ok.bs b o e,h1!,BF ho,h2!,(∀x c,X.env.cells.lookup x=some c->c≠b),h3!,uw b o e L,h4!,s1B t,h5!,λ_ _ _ _ n=>n,h6!,λ_ _ _ e=>e,h7!,"_law_most",h8!,s2B t,h9!,Gd (fT (Ja "tuple" i_))]
def z'hh:String:=z [ha_,Bb X.K H ds vs,hb_,fs ρ=some ds,hc_,Ds v' u',hd_,Cs ud,he_,s.heap.IsTuple l1 xs,hf_,DY ?_,hg_,zp5 s.heap l1 l2,hh_,λc o e=>?_,hi_,CY.mpr s_,hj_,k=="undo",hk_,(∀b,b≠p->M' b=M b),hl_,∀o∈ops,DG o.d,hm_,.lst ei_,hn_,(show v=.none from hy),ho_,wl fa,hp_,.fn a2,hq_,"texts",hr_,.inl e5_,hs_,(o::os),ht_,wJ P w K own G H Z ρ M,hu_,DH _,hv_,OpM X.prog X.w X.K r gm,hw_,k3 a b c,hx_,k3 (.lst fy!) fy_ en_,hy_,.tup ai!,hz_,Mh->List D->Option D,hA_,q.1=x,hB_,kget kvs y,hC_,.int bb_,hD_,some (.lst ep_),hE_,[hE!,some hD!],hF_,W.its.map λi=>(i,D.fn fz!),hG_,q.2.1.map a_,hH_,o.h=h,hI_,m - 1,hJ_,some (.int N),hK_,(by rw[hA.ob];simp),hL_,[q_,ag_],hM_,k3_<64,hN_,l.map f,hO_,.done (.ret .none),hP_,(hN!).zip ds,hQ_,ms.map λo=>ld!,hR_,(s.heap.push cp_).update s.heap.objs.size (Obj.mapSeq (·++cA_)),hS_,(by simpa using B),hT_,List (List Key×V),hU_,o.ExactDict,hV_,[N!,cP!],hW_,λ_ q=>q,hX_,alB t,hY_,H a=none,hZ_,.ListComp db uX_ scope ac,h0_,Cc (d:=a8_) rfl,h1_,b∈X.ex\/dA!<=b,h2_,λb o e n J L=>?_,h3_,Dt M w aj W,h4_,"outline",h5_,λ_ _ e=>e,h6_,λm hm=>?_,h7_,"_law_base",h8_,"_law_at",h9_,Hk (Aa i)]
def z'i:String:=z [ia!,.str "bin",ib!,f1 Na aZ!,ic!,∀dm,isTrue e X.env dm=(do let v <-dm;standAt e.pos;holding [v] lQ!),id!,nV 0 1,ie!,.bl false,if!,.inl h,ig!,PS X st t,ih!,some e,ii!,wl ia_,ij!,w2 Dz lZ_ u!,ik!,λ_ _ _ _ _=>Ce (i:=0) (show([cU_,aY_]:List Str).Nodup by decide+kernel) rfl b_,il!,⟨.int _,H,a0_,K_,q⟩,im!,pyNext b2_,in!,Ai aD! Aw,io!,f2 Aq lT_ F_,ip!,f1 Gj aZ!,iq!,Qt iq_,ir!,Gl X "range",is!,λ_=>Bu,it!,Ap eH_ (Bj (Mm (Fj (Gd rN!)) (wT (w2 is! (dP u! a1_) (wl io_)))) (Ei F! a1_ gg_) Di),iu!,.str "move",iv!,.str "set",iw!,λ_ _ _ _ _=>o!,ix!,tOp r ta tb,iy!,Av An Au aD! Ae s_,iz!,Ml X (compareOp dz) r',iA!,.Compare a [op,dz] [b,c] pos,iB!,if i<0 then -i else i,iC!,"_law_row",iD!,Xu w_,iE!,Ay 2 (Dp t) cv_,iF!,.int 9,iG!,W.emptyDict,iH!,.str "",iI!,H a=some eP!,iJ!,Wj (Xx T) c_ rfl,iK!,Po.m Dm,iL!,Cn T.U4 T.U6 o!,iM!,Cn T.U3 T.U9 o!,iN!,Ad F_ (Ad F_ (Ad F_ Ao)),iO!,.Call s8_ aI_ [] pos,iP!,Str->Option NameKind,iQ!,AV.mp nd,iR!,Fj (fT l0!),iS!,.str "texts",iT!,wl (fC mQ_),iU!,Ba 5 (w2 Dz bh_ b5!),iV!,⟨_,ho,rfl⟩,iW!,(by simpa using hv),iX!,.ref sl,iY!,Builtin.Tuple.tupleExact _,iZ!,V->Option Int->Option Int->Hp->VK->Prop,i0!,V->List V->Hp->VK->Prop,i1!,Z!<=sizeLine,i2!,(show false=true from fx),i3!,.str z,i4!,u++[a0],i5!,.ref l,i6!,z▸ha,i7!,.dT kvs,i8!,.inr (.inr e5_),i9!,Mn kf n]
def z'ii:String:=z [ia_,fC ia!,ib_,PE X e t,ic_,f1 Dd cZ_,id_,fG (Vc t) 0 cZ_,ie_,its.toList,if_,f2 Bh w! cg_,ig_,Bs t.B5 "preceding" i!,ih_,St->Hp->Prop,ii_,Np t.B5 1 (Oh t) Ak,ij_,.Name x ic,ik_,Ac F! aJ!,il_,Jr E_,im_,Av An Au a2_ Ae s_,in_,Qj true,io_,fC b4!,iq_,Hk i_,ir_,X.mg "range"=none,is_,Ab 10,it_,(false,eval b X.env),iu_,f2 b J,iv_,I7.unpinned,iw_,Int->Int->V,ix_,2 ^ 64,iy_,Aj by_ Az,iz_,lastMarks [op,dz] [b,c]=false,iA_,(by simp only[AJ];omega),iB_,Ba 2 su_,iC_,r'.length,iD_,K.In s.heap,iE_,Af im_,iF_,W.instObj C q!,iG_,Uy f v fs,iH_,(show False from r),iI_,[.non,.non],iJ_,True.intro,iK_,Aa 10,iL_,A.under (.builtin "type.__call__" ⟨.ref C::us,kw⟩),iM_,.List es pos,iN_,f2 Hh G_ v_,iO_,.Call s8_ [] [] pos,iP_,((p,w)::P.zip vs),iQ_,N.length,iR_,f2 Bu V_ w!,iS_,W.codeIn K af qual=true,iT_,bootBuiltins x=some eV!,iU_,.ref t,iV_,⟨_,ie,rfl⟩,iW_,((sIx n 0 lo:Nat):Int),iX_,Do P! Cj M! be_ s_,iY_,AC ⟨_,rfl,AC h⟩,iZ_,(k_:Int),i0_,IxR X r,i1_,iP kf kp xs,i2_,[(.non,.non)],i3_,compareOp .In,i4_,(b0::v),i5_,upd H l a6!,i6_,z▸w,i7_,Jr al!,i8_,.inr e5_,i9_,Mn kp n]
def z'j:String:=z [ja!,z▸this,jb!,Dc (sc:=Ah Zm) rfl r!,jc!,mup_ne jm,jd!,mup_ne s9,je!,(D.non::u),jf!,backTo ac uA_,jg!,l.most=some n,jh!,z▸AO (f:=a_) hq,ji!,λx=>?_,jj!,⟨[u],[]⟩,jk!,λx L y hy=>?_,jl!,Kv st,jm!,(by kernel_rfl),jn!,AE _ hp,jo!,names.map λ(n,k)=>if nt_ then(n,NameKind.cell)else(n,k),jp!,.inl z,jq!,hA.lt x L,jr!,if x=i then cutT [s] bj_ else W.txt x,js!,[e7!,e7_,eH!],jt!,.tup [e7!,e7_],ju!,fg _ (qu p hp),jv!,(by rw[hl];exact BG _ q0),jw!,mup_ne z,jx!,upd H p dd!,jy!,[aV!,aK_,.int (k0:Nat)],jz!,λb u e=>?_,jA!,aw!<=16,jB!,s3 c hc,jC!,mup_ne h5,jD!,(∀v G' H',Ev G H G' H'->Bn K G' d v->Q v H'),jE!,⟨x,rfl,?_⟩,jF!,DA X own es fs,jG!,f1 g fs,jH!,z▸L,jI!,Dj sub qa,jJ!,wl f1,jK!,List Bool,jL!,Ev.refl s2,jM!,starEach (a::[]) X.env=dK_::starEach [] X.env,jN!,bnd d ρ,jO!,.str "put",jP!,.str "set",jQ!,∀o∈ops,a4y o,jR!,λj hj=>?_,jS!,.tup [ff_,ff_],jT!,AZ.mp B,jU!,eval bn! X.env,jV!,[.Subscript bn! ix p2],jW!,spF K ps.length g,jX!,Lp X.K H a vs,jY!,Jb oj! oj_,jZ!,∀(us us':h!),Ci vs us->Ci ws us'->∀(j:Nat) u u',us[j]?=some u->us'[j]?=some u'->SeqAt.EqAt A.in1 s u u' jY!,j0!,λj=>Jb oj! oj_,j1!,Xl ds es hl,j2!,⟨.bl _,H,I,rfl,q⟩,j3!,b0r (cU rfl (DR _)),j4!,ys.map (·.length),j5!,(by size_fits),j6!,IsZip s.heap z TI TO .none,j7!,IsPair s.heap TI pR! ot!,j8!,(ot_).set p.toNat (.int v),j9!,s.heap.IsTupleIter i2 l2 k2]
def z'jj:String:=z [ja_,⟨B6,B7,B8,B9,C0,C1,C2,C3,C4,C5,C6,C7⟩,jb_,λ_ _ _ _ _=>E_,jc_,mup_ne m9,jd_,mup_ne sy,je_,AA fin,jf_,(by show 3<=1000;decide),jg_,ns.map .int,jh_,List.Pairwise.nil,ji_,λa b hm=>?_,jj_,λv _=>v=.bl true,jk_,TP X O Z Q,jl_,[(Str.ofString "following",D.fn f),(Str.ofString "preceding",D.fn p)],jm_,ForInStep.yield r,jn_,a7_∈W.rows,jo_,flt b J,jp_,W.num i,jq_,⟨_,mup_same⟩,jr_,(O!,zF us n),js_,[e7!,e7_,.int z],jt_,(λv z=>by cases z),ju_,∀a vs,Lp K H a vs->Lp K H' a vs,jv_,(by rw[hl];exact AS _ q0),jw_,.str i,jx_,λ_ h=>.inl h,jy_,.int (k0:Nat),jz_,Ev G H G' H',jA_,∀j∈ix,j∉own,jB_,Zw hN hv hd bv,jC_,fb ρ,jD_,f2 g fa fb,jE_,⟨G1,ρ,d,de!,e,vx!⟩,jF_,lI h.ok,jG_,Jx X.K fd ps [],jH_,k _ G H aM! Bn.str,jI_,Int->Int->D,jJ_,wo W.rows i,jK_,bs.map Value.bool,jL_,cs.map λ_=>.bl true,jM_,xs.map D.str,jN_,λv H2 hy=>?_,jO_,.str "write",jP_,Bb K G ds vs,jQ_,ops.length,jR_,jQ_<=100,jS_,[.str "bin",jS!],jT_,starEach (e::[]) X.env=eQ!::starEach [] X.env,jU_,(aw!:Int),jV_,cs.map eO,jW_,some iu,jX_,(by simpa using h),jY_,us.toArray.size,jZ_,aj.length,j0_,cH rd re rv aj (h us us' rv aj),j1_,Xh ds es hl,j2_,.ref ad,j3_,Its x,j4_,Str.ofString "__next__",j5_,ZipApart z TI TO i1 i2 l1 l2,j6_,.tup [jP!,a,.int p,.int v],j7_,IsPair s.heap TO p q,j8_,s.heap.IsTupleIter i1 l1 k1,j9_,(∀c ob,c≠z->c≠TO->c≠i1->c≠i2->s.heap.get? c=some ob->h'.get? c=some ob)]
def z'k:String:=z [ka!,.tup ci_,kb!,AA (JI ?_),kc!,hA.noOb oM6,kd!,[C!,aT!],ke!,(·.2.1),kf!,.int o.tm,kg!,Us xs ys,kh!,[aW_,Q!,none],ki!,rows.map a_,kj!,λq hq=>?_,kk!,mup_ne (AI jq),kl!,Ba 1 Jk,km!,dM P w h es ks,kn!,.fn a3,ko!,dM P w s.heap es.toArray ks,kp!,Cv G G',kq!,hp.map _,kr!,dE a es ep,ks!,some fw!,kt!,.int base,ku!,(u++o::v),kv!,st.grow x1 m1,kw!,(Str.ofString "undo"==k||Str.ofString "redo"==k),kx!,its.map λi=>(i,g i),ky!,Fu X.K G x v,kz!,dictGet a u>>=_,kA!,[x!,aT!],kB!,.int (ap!:Nat),kC!,Cp rs[k],kD!,λw hw=>bU I r1 rx n1 r2 r n2 (by have:=Yc X.A;omega) w mX!,kE!,dD I r2 r n2,kF!,(by simpa using ul),kG!,.ext x2,kH!,(p,kvs,ep),kI!,ho.run I st e λd M1 v G1 H1 u s1 r1 x1 m1 q1 I1 rx=>?_,kJ!,wl fx,kK!,AH (AI h.1),kL!,.lst kK_,kM!,Lx own Z H,kN!,s.root J,kO!,⟨#[s.cps.toList.getD k 0]⟩,kP!,g ρ=some b,kQ!,.lst (nw.map Cm),kR!,Gg C m M d,kS!,Ex N ps.length q,kT!,fo ρ=some D_,kU!,Us pO_ pP!,kV!,.Constant (.str s0) n0 p0,kW!,mirror_perm _ _ _ _,kX!,sgn h m,kY!,(0,a0.size,0),kZ!,Pu f1 ρ M a,k0!,Pu f ρ M d,k1!,[fL_,Ad!],k2!,AE _ hz,k3!,hs S h,k4!,Value.int a t,k5!,(by rw[hA.wt];simp),k6!,Cc (d:=aV!) rfl,k7!,hs S o.h,k8!,Cc (d:=bR_) rfl,k9!,List (Keyed×D)]
def z'kk:String:=z [ka_,λx L q hq=>?_,kb_,k==k',kc_,[.str k,a],kd_,λK hK=>?_,ke_,λc hc=>?_,kf_,[hj!,.int o.n,kf!,o.d],kg_,mup_ne J,kh_,aI l c k,ki_,mup_ne c2,kj_,[(root,.non),(binn,.non)],kk_,ks.length,kl_,[(root,.fn r1),(binn,.fn r2)],km_,plc es dp!,kn_,(·.key),ko_,(by simpa using hl),kp_,hp x AM,kq_,(by rw[hp.length_eq];omega),kr_,XM M G H M' G' H',ks_,[N!,o8_,ag_,some o9_],kt_,[N!,fx!,ag_,z],ku_,w2 gm fa fb,kv_,⟨G1,ρ,M1,R,kv!,r1,yp!⟩,kw_,if _ then _ else _,kx_,(bj_).map Cm,ky_,upd H a (dE a au (Lq kvs d ep)),kz_,vW (A:=A.in1) hu I m sub e r hk λo s' I' ho=>?_,kA_,some bb_,kB_,upd H a (dE a au bb!),kC_,!Jb d d',kD_,(show its.toArray.any fB_=its.any fB_ by simp),kE_,.lst ((yK!).map Cp),kF_,AN (by simp[big];omega),kG_,W.rows.filter λq=>decide hA_,kH_,decide hA_,kI_,⟨t1,t2,?_⟩,kJ_,Aa 2 ρ,kK_,l.map Cm,kL_,fb ρ=some y,kM_,some ee_,kN_,p1 rfl,kO_,f ρ=some a,kP_,[.Subscript o i p2],kQ_,.lst [],kR_,.obj C [],kS_,AC (AA (JD ho hd ?_)),kT_,ms.length,kU_,hs os h,kV_,HW i os c0 c1 c2 t0 t1 t2,kW_,[U_,an_,hJ_,fx_,pV_,pV_,none,none,none,none],kX_,pX_++os.filter λo=>!p o.h,kY_,setPending h1 ((z8_).push kY!),kZ_,⟨rfl,hg _ hK⟩,k0_,PuT ft ρ M false,k1_,[fL_,Ad!,(Str.ofString "waiting",.fn wa)],k2_,Int->Addr,k3_,S.length,k4_,(by rw[ht];simp),k5_,Ow bX_ hA.ob hF2,k6_,[ah!,o.v],k7_,λz hz=>?_,k8_,α->β,k9_,if h=o.h then q else ca h]
def z'l:String:=z [la!,(by rw[AJ,CI];omega),lb!,PySem.Fin->Shared->Prop,lc!,AT.mp J,ld!,(o.nm,o.v),le!,hk p hp,lf!,[q_,P_,Q!,ag_,hn!,ag_],lg!,[ah!,lf_],lh!,.builtin "sorted",li!,(Sum.inl a:Key),lj!,(nomatch e),lk!,h.ch y.h,ll!,κ×Value,lm!,W.instObj C dx,ln!,ds.map aQ,lo!,(kT_:Nat),lp!,kl.flatMap (hs S),lq!,e=x\/H e=some hX!,lr!,(Re S).map Op.v,ls!,upd H x o,lt!,Bt (hm b _ q λz=>z),lu!,[.lst jg_],lv!,Vu bY_ (iY h),lw!,Cc (d:=fg!) rfl,lx!,I.freeC x c e,ly!,λx c e=>?_,lz!,I.base.free b o e n L,lA!,[ak!,bd_,"first","many"],lB!,λz=>hc f1!,lC!,[D.tup [x,p]],lD!,[az_,"fresh"],lE!,"_law_letters",lF!,[cT_,h7!],lG!,"_law_other",lH!,hs.2 b (BV qG!),lI!,.lst W.its,lJ!,"_law_name",lK!,[cq_,cU_],lL!,hs.2 b (BV (BE cS! (I.ok.cab x c wv hc))),lM!,Inv X O Z H' s',lN!,f2 Bu V_ f4_,lO!,eval a X.env,lP!,.bool b,lQ!,truthy v,lR!,.BoolOp .Or [a] pos,lS!,Gq b1! λv s1 ⟨x,H1,I1,r1,q1⟩=>?_,lT!,Om (nK (rQ rk_ (fJ (Co qM qO f9_ Ae r_)))) eC_ Hx,lU!,Ai aI! Aw,lV!,⟨hx,H',I.unwish,q⟩,lW!,.Return ih! pos,lX!,assignEach es X.env,lY!,setItem ov iv v,lZ!,PG X tg g,l0!,f2 Fw w! y!,l1!,Ac u! l0_,l2!,Ac a2! Ak,l3!,λ_ _ _ _ _=>gd_,l4!,Int->Int->Int,l5!,Ad bw_ Ao,l7!,λb J=>(hf b J).1,l8!,λb o J e=>kk b o gi! e,l9!,.str "redo"]
def z'll:String:=z [la_,[q_,ag_,none],lb_,(a,seqObj "list" #[] e1),lc_,ku.toArray.zip cA_,ld_,[q_,P_,Q!,ag_,hn!,y5],le_,hk q a7,lf_,.lst fP!,lg_,[q_,Q!,aX!,hn!,some en!],lh_,.str x t,li_,(Sum.inr a:Key),lj_,⟨_,rfl,r⟩,lk_,Cg M q E!,ll_,List Key×Addr×Value,lm_,ds.all λd=>(Yo d).isSome,ln_,Rc aQ ds,lo_,[q_,cP!],lp_,Mut (H x),lq_,∃u,h'.get? e=some u,lr_,jH F S λaf A outer s H E hr=>J hr,ls_,.obj t.B3 (hF ta wa ae_),lt_,trk h H,lu_,X.env.scope.kind,lv_,.int (i:Nat),lw_,dJ X.prog X.w H' h',lx_,[ak!,ar!,fY_],ly_,I.base.keep b o e n J L,lz_,[ak!,qJ_,bd_,"behind","text"],lA_,λb J=>?_,lB_,.lst [.tup [x,p]],lC_,"message",lD_,[az_,ar!],lE_,.fn (qa q1),lF_,"_law_rows",lG_,[bG_,h7_,bH!,h7!],lH_,[bG_,h7_,"_law_many"],lI_,[cq_,aY_,lG!],lJ_,"_law_gone",lK_,[f4!,bH!],lL_,.int 60,lM_,starEach es X.env,lN_,f2 Fw V_ f4_,lO_,⟨v,H,I,r,h⟩,lP_,h O s Z H _ I hw,lQ_,.BoolOp .And [a] pos,lR_,.BoolOp op [a] pos,lS_,.IfExp c a b pos,lT_,f2 Aq i_ as!,lU_,Oo T.S9 rfl,lV_,(st::rest),lW_,Hp->Prop,lX_,PE X o to,lY_,Af (fL Aw),lZ_,Bs t.B4 "parents" i!,l0_,Ac aP_ Ak,l1_,Gn.cons (j:=1) Gn.nil,l2_,λ_ _ _ _ _=>gK (Jz (Co as_ Dm aI! al! r_)),l3_,Bx t.B4 "has_item" 2 (Dx t) i! aJ!,l4_,Av An Au aI! Ae s_,l5_,Ba 8 (wl (f2 Bd w! (Cf l5!))),l6_,{s with heap:=h'},l7_,⟨rfl,I.turned (t':=s.toks) (λb o J e=>eb b o J e) f0 f1 f3 f4 f5⟩,l8_,Ng (n:=9) rfl,l9_,I1.kept (t':=s1.toks) λb o e=>AG _ e]
def z'm:String:=z [ma!,s.heap.push {cls:=.type "range",data:=.fields #[.int lo t,.int hi u,.int 1 v]},mb!,ha pos O s Z H _ I h,mc!,PI X tg iter wi,md!,f2 Aq G_ as!,me!,Ml X (binaryOp op) r,mf!,Hm t.B3 "outline" i! b2!,mg!,wl (Hw Ao),mh!,w2 Dz dL_ F!,mi!,Ac (Ay 1 (Jv t) aQ!) Ak,mj!,rI b8o λi j=>.int (i*j),mk!,f2 Aq w! v_,ml!,rI (λ_ j=>0<j) λi j=>.int (i%j),mm!,i ^ j.toNat,mn!,Aj aR! Az,mo!,tE λi j=>.bl mp!,mp!,decide (i<j),mq!,tE λi j=>.bl mq_,mr!,tE λi j=>.bl mr_,ms!,Aj aJ_ Az,mt!,ho O s2 Z H2 x y v u _ I2 r1 r2 q2,mu!,kvs.isEmpty,mv!,⟨H,I,q⟩,mw!,Gn.cons (j:=3) Gn.nil,mx!,.str (toString i),my!,a4z s.heap x dx C mA,mz!,W.plainGet_of hg,mA!,Eh Ff Jj rfl T.R0 Jd ge!,mB!,f2 Bu io! (fC eI!),mC!,Aj v! mn!,mD!,Option Value,mE!,I.tok _,mF!,PE X o ta,mG!,Do P! Cj mF_ v! s_,mH!,nZ P w K mg base A outer s H,mI!,.ins C dx [],mJ!,Tr I hg hm ?_ bc,mK!,backTo pos tb_,mL!,Em (w2 Dz i! gy_),mM!,wl (fC iS!),mN!,Bf (Rk T) c_ rfl cw_,mO!,Ba 2 (wl mN_),mP!,Ba 3 (wl (Cf ty!)),mQ!,Bf (Jt T) c_ rfl dU_,mR!,w2 Dz i! iT!,mS!,Ph X eU_ r,mT!,En (Ay 4 Mj tA!),mU!,En (Ay 4 Ra (Ac i! gm_)),mV!,.int c u,mW!,ws.length,mX!,(by simpa using hw),mY!,Ad (f2 Bd tK_ i_) Ao,mZ!,(items.toList.drop (sIx items.size 0 lo)).take tO_,m0!,w2 Dz F! mM!,m1!,.Slice lo hi none p2,m2!,HT.sIx xs.length xs.length hi - HT.sIx xs.length 0 lo,m3!,Ad F_ (Ad (f2 Eg (f1 Ee t2!) (fC (.int 13))) Ao),m4!,Ba 3 u!,m5!,fs.map a_,m6!,Bj (wOr (wT (w2 neM (Ay 2 (nF t) (Ac F! (Ac a1_ Ak))) (wl ic_))) (Fj (fT t9!))) dT_ Di,m7!,sliceBounds lo hi none n,m8!,gb++bN!,m9!,h.f _ _]
def z'mm:String:=z [ma_,Gq mb! λus s1 ⟨vs,H1,I1,r1,q1⟩=>?_,mb_,.str "drop",mc_,V->Hp->VK->Prop,md_,Int->Int->Prop,me_,.BinOp a op b pos,mf_,f dx_ (.int j u),mg_,Int->Int->Bool,mh_,Bz (wl (f1 Gj cZ_)),mi_,binaryOp .Mult,mj_,rI c9a λi j=>.int (i / j),mk_,f2 Aq w! F_,ml_,rI c8z λi j=>.int mm!,mm_,Aj M! aQ_,mn_,Aj M! mn!,mo_,compareOp .LtE,mp_,decide (i<=j),mq_,decide (j<i),mr_,decide (j<=i),ms_,He 1 [] dN! B! a1! si_,mt_,oU (aA b6! (Tl (Hj b5_ Kj by_ bf! rfl))),mu_,its.toArray.isEmpty,mv_,Dc (sc:=Ah kG) rfl r!,mw_,i.natAbs.log2,mx_,⟨.str _,H,a0_,K_,q⟩,my_,Bx t.B4 "has" 2 gc_ su_ aJ!,mz_,W.isFn K ah_=true,mA_,{s with toks:=s.toks+1},mB_,show Uy f v ((k,x)::r)=(if k=f then(k,v)::r else(k,x)::Uy f v r)from rfl,mC_,f2 Bd v_ (f2 Eg i_ w!),mD_,Ad (f1 Ee (Ad i_ (Ad sE! Ao))) Ao,mE_,Af (Hy aD! Jq dH!),mF_,Cn T.U3 T.U7 o!,mG_,Dh (Go T) c_ o! aQ_,mH_,.int 15,mI_,upd s5! x mI!,mJ_,Ba 3 (wl iN_),mK_,Mk X.K C f,mL_,wl (fC Y_),mM_,Ac F! l0_,mN_,f2 Aq w! as!,mO_,fN CX P w K mg base N qual scope f af A outer s H E,mP_,Ei bh_ aP_ mg!,mQ_,.str "numbers",mR_,Ei mR! aP_ (Yq tz_),mS_,bootBuiltins x=some eU_,mT_,Ph X eV! r,mU_,En (Ay 4 Ra (Ac i! rT!)),mV_,Qt (Km tC_),mW_,Gn.cons (j:=0) Gn.nil,mX_,v+(n:Int),mY_,(i:Int)+(m:Int)*1,mZ_,Ba 2 (Ay 1 cO aJ!),m0_,Ai Ae Aw,m1_,HT.sIx xs.length 0 lo,m2_,λb ob q=>AG _ q,m3_,Ba 2 (Np t.B3 2 (Sr t) t3!),m4_,f2 Bu t4_ F_,m5_,.Subscript a b pos,m6_,Ay 2 (Xd t) ik_,m7_,Av An Au bf_ Ae s_,m8_,ag.endLine==ac.line,m9_,h.p _ _]
def z'n:String:=z [na!,λx1 x2=>x1++x2,nb!,n<=sizeLine,nc!,2 ^ 63 - 1,nd!,K.p _ _,ne!,(by show 1<=1000;decide),nf!,(aE_).map a_,ng!,World->Heap->Prop,nh!,d.params.defaults=[],ni!,.call e1_ nh_,nj!,λf vs=>PySem.call f vs,nk!,⟨t,rfl⟩,nl!,λ_ _ _=>False,nm!,"numbers",nn!,(cz!).mp L,no!,setT W a l,np!,W.fnOf x qual jl! bP_ bA_ .none kV bn pm an af ct,nq!,Bt (ne b _ e),nr!,Bt (by simpa using hc),ns!,k1.length,nt!,.inr (.inr ⟨ai!,rfl⟩),nu!,c3i X scope cl,nv!,Inv X O Z H2 s2,nw!,mup_ne h3,nx!,[C!,aT!,H_],ny!,hA.noOb oM2,nz!,⟨r,f,p',g1,g2.keep (ar _ db_) (ar _ d3_) (ar _ d4!),g3,g4,g5⟩,nA!,setT W i (cutT g bj_),nB!,.dct nB_ e6,nC!,setT W i uY_,nD!,.dct (Bk k5 s c) e5,nE!,List (L2.Key×V),nF!,ds.drop n,nG!,cs.zipIdx k0,nH!,[C!,bk_,H_,d8!,some tx,some cu,some jy_,some gD_,p7],nI!,(.tup jy!,.str am!,true),nJ!,hO.mono a!,nK!,Bk k1 n pl,nL!,Bk k2 n (.fn r1),nM!,.dct nL_ e3,nN!,s2 c hc,nO!,ir c hc,nP!,vt c hc,nQ!,gg c jB!,nR!,w1 _ v1,nS!,w1 _ v3,nT!,(by rw[z,hA.r1]),nU!,(by rw[z,g4]),nV!,fT fa ρ,nW!,w1 a2 h3,nX!,(by rw[Hb xn];exact u1),nY!,na d hd,nZ!,AH (λz:x=n=>hn jH!),n0!,Option Int,n1!,Cg M a1 n0_,n2!,sub.seq q,n3!,⟨o,B,Y⟩,n4!,Bj _ _ _,n5!,.dct (Bk k1 i x) (Lq k1 i e1),n6!,sub.seq q,n7!,List.range n,n8!,(a==k||b==k),n9!,GD X.K g bnd]
def z'nn:String:=z [na_,acc++its,nb_,(by rw[AJ];omega),nc_,∀x∈xs,∃k,Ge x=some k,nd_,ks.map kV,ne_,W.its.Nodup,nf_,(Str->Option Value)->Heap->Prop,ng_,To.mp hq,nh_,⟨bg!,[]⟩,ni_,λr s'=>r=.ok (.ret gH!)/\OldK ai.heap s'.heap/\s'.os=ai.os/\AllBare s'.gens,nj_,.bool true,nk_,Ax k callerA,nl_,n∉W.its,nm_,if x=n then[]else W.txt x,nn_,(nn!).resolve_right q,no_,if x=a then l else W.txt x,np_,Str.ofString "written",nq_,λm hm=>hm,nr_,λ_ _ _ q=>q,ns_,(by rw[e1];exact J),nt_,k==gK!&&env.scope.kind==.function&&env.kindOf n==some .cell,nu_,∀b∈fp,Qs X O H2 b,nv_,mup_ne p1,nw_,iA NL.length ix Z,nx_,Ge x=some kx,ny_,(jp_).set p.toNat eN!,nz_,(q.1,q.2.1,q.2.2&&!decide (q.1∈cm)),nA_,λq hq y hy q' a7 e=>?_,nB_,Bk k6 s C_,nC_,g++[.tup js!],nD_,setT W i u7!,nE_,(by rw[p6];simp),nF_,V.ref p,nG_,[C!,bk_,H_,d8!,some tx,some cu,some jy_,some gD_,some ce!],nH_,some cd_,nI_,λi d q _=>?_,nJ_,b8a nl ix ρ,nK_,hw Z G H Q ρ d er e k,nL_,Bk k3 n (.fn r2),nM_,mup_ne c3,nN_,if b∈Sc own Z then none else G' b,nO_,K3 c (nO!).1 (nO!).2.1 (nO!).2.2,nP_,gg c hc,nQ_,mup_ne h4,nR_,w1 _ v2,nS_,k G' H' s',nT_,⟨G,ρ,x,er,e1,λG1 H1 s1=>?_⟩,nU_,(by rw[z,g5]),nV_,⟨G,ρ,.bl x,er,Tz e1,vw_⟩,nW_,(by rw[AJ,AJ];omega),nX_,Dj sub qb,nY_,λ_ j=>decide (0<j),nZ_,⟨ho,rfl,k⟩,n0_,.dct nK! (Lq k1 n e1),n1_,Nj.mp z,n2_,.builtin "isinstance",n3_,.dct nL_ (Lq k3 n e3),n4_,[C!,H_,aT!,bT!],n5_,Kw K H p ys\/Lp K H p ys,n6_,bs.all id,n7_,.tup [.str a,.str b],n8_,aj.mono x2.g,n9_,x.sub.free hp]
def z'o:String:=z [oa!,B.ok G0 F0,ob!,.str "undo",oc!,.lst its,od!,cv.length,oe!,h5.mono x.g,of!,letters.length,og!,.str letters,oh!,⟨me ik,?_⟩,oi!,fN iR P w K mg base N qual bA_ σ af A outer s H E,oj!,ds.getD j .non,ok!,us'.toArray.size,ol!,some (lL oth),om!,[U_,an_,ax!,bn_,bT_,ch_,cG!,jW_,fh_,some U!,some sg,none],on!,[.tup [bR_,.int (1+m0%5)]],oo!,bj.lookup y,op!,Sum.inr z,oq!,A'.handled,or!,[a].length+(dW!).length+e0!<30,os!,⟨_,dK!,rfl⟩,ot!,.ref i2,ou!,⟨a',b',c',e',BG _ hm⟩,ov!,⟨_,rfl,?_⟩,ow!,Gm (D.str k::r) 0=_,ox!,.tup (.str k::a::b::r),oy!,f3 ρ=some c,oz!,.type "zip",oA!,AG _ ou_,oB!,λc o _ _ hc e _=>kp c o hc e,oC!,λc o hc e=>⟨o,kp c o hc e⟩,oD!,I.hok c o e,oE!,λ_ e'=>e',oF!,⟨dw,?_⟩,oG!,Bt (ne d _ q),oH!,DD.mp hq,oI!,Str.ofString "undo"==Str.ofString "undo",oJ!,ops.map Op.key,oK!,.bl (Nq o.d).isSome,oL!,λk=>.bl hj_,oM!,(∀o∈os,DG o.d),oN!,A.deeper (envOfC x bA_ s.heap.objs.size σ af),oO!,hi - lo,oP!,(aI l c k).binds b,oQ!,ns.map D.int,oR!,xM rows,oS!,kget wd o.nm,oT!,fX .str aW! [],oU!,Tn P w s.heap x u,oV!,.obj t.B4 [],oW!,[(root,D.non),(binn,D.non)],oX!,.obj t.B4 ft_,oY!,[(root,D.fn r1),(binn,D.fn r2)],oZ!,Dk d0! kn! hq!,o0!,Option Nat,o1!,AA (jC hu hk λtk=>AA x1_),o2!,os.map Op.nm,o3!,[P_,C!,aX!,some x.v,z],o4!,λy hy=>hd y d2!,o5!,Bk kvs d x,o6!,((j:Nat):Int),o7!,[N!,yf_,ag_,some o6_],o8!,(bi_).map Op.v,o9!,(bV_:Nat)]
def z'oo:String:=z [oa_,.str "move",ob_,ρ.set i nH_,oc_,some (.lst cv),od_,.inl ⟨rfl,vs,Kw.of h3⟩,oe_,Iw ds.length j,of_,⟨cs.toArray⟩,og_,λ_=>some true,oh_,A.deeper (envOfC qual bA_ s.heap.objs.size σ af),oi_,[U_,an_,ax!,bn_,bT_,ch_,cG!,jW_,fh_,some U!,none,none],oj_,es.getD j .non,ok_,us'.toArray,ol_,Kw X.K H a vs,om_,Gp rfl rfl,on_,ad==sysModules,oo_,Sum.inr z,op_,Addr->Option wy_,oq_,backTo ac (starEach [a] X.env),or_,.ref jt,os_,[aV!,aK_,.int (k:Nat)],ot_,W.num a,ou_,BD _ rfl,ov_,.str k',ow_,.tup (.str k::a::r),ox_,.tup (.str k::a::b::c::r),oy_,zp4 s.heap l1 l2,oz_,some (.inl (.inr "bin")),oA_,(λv y=>by cases y),oB_,λc o _ _ hc e _=>⟨o.slots,kp c o hc e⟩,oC_,λc ps e=>qO_,oD_,λd o' hd e'=>kp d o' (λhm=>?_) e',oE_,Bt (ne c _ e),oF_,(dm!).map a_,oG_,Wv iH! xq_=some v,oH_,(k=="undo"||k=="redo"),oI_,Str.ofString "redo"==Str.ofString "redo",oJ_,⟨_,_,rfl,rfl,ec_⟩,oK_,(Aq o.v aA_).bind λx=>Aq x I_,oL_,[P_,Q!,y],oM_,.dct acc ep,oN_,fN iR P w K mg base N x bA_ σ af A outer s H E,oO_,a3w n es,oP_,W.mg_of X G a,oQ_,λx=>?_,oR_,a5y rows,oS_,[aW_,none,none,none,none],oT_,List L2.Key,oU_,(∀b,M b≠none->M' b=M b/\rl b=.oth),oV_,Cg (Cg M o oV!) a1 E!,oW_,.dct kj_ (oW!).length,oX_,(by rw[mup_same];simp),oY_,.dct kl_ (oY!).length,oZ_,EK ho hd (AA (b5n hu q2 hk (AA (EK ho hd ?_)))),o0_,if c=o then _ else _,o1_,ag!<=sizeLine,o2_,oB wd os,o3_,some x.v,o4_,λy hy=>hp y d2!,o5_,hH.trans B,o6_,.int yg_,o7_,(by rw[e];simp),o8_,some (.lst o8!),o9_,.int o9!]
def z'p:String:=z [pa!,((bV_+m:Nat):Int),pb!,hw Z G H Q ρ M R st e k,pc!,st.mr.ext x,pd!,.int (cL!:Nat),pe!,[aW_,none,none,none],pf!,⟨B,Y⟩,pg!,Cg M p c,ph!,⟨o,h⟩,pi!,Ea 1 [1] _ _ _ _,pj!,AA (GQ hT ad_),pk!,.int ((k+1:Nat):Int),pl!,compareOp .NotIn,pm!,(by rw[hA.rt];simp),pn!,(by rw[Y];simp),po!,[x!,H_,cc_,bT!,fB!,some jy_,none],pp!,α->Prop,pq!,.lst [Cp bN_],pr!,q.2.length,ps!,.lst [p],pt!,kget q.2.1 y,pu!,Value×Value,pv!,.dct (Bk cn_ a kL!) e,pw!,.fn (qa a),px!,upd H s.heap.objs.size yV_,py!,[x!,N!,kM_,fE_,o4,o5,o6,o7,o8,o9],pz!,B.ok M0 G0 F0,pA!,sr.grow x m,pB!,List.range aw!,pC!,Ux M3 d y v,pD!,[x!,N!,fF!,bk_,y4,hD_,pC_,y,some kQ!,none],pE!,Rs P w K own M0 G0 F0 M1 G1 H1 Z ρ,pF!,spM P w K ps.length g,pG!,wI W n d W',pH!,vJ hL dv0 Zh bi,pI!,fa ρ=some y,pJ!,(λi v=>∃e,es[i]?=some e/\v=e.key),pK!,Cg pJ_ wt E!,pL!,(by simpa using ph),pM!,.str "numbers",pN!,.bool (lexLt ms ns),pO!,List (Addr×D),pP!,cs.map B_,pQ!,Addr×D->Prop,pR!,.ref i1,pS!,(by have:=hw.b0;omega),pT!,(by have:=hw.b2;omega),pU!,Option Nat->SortSt->Prop,pV!,mirror z_ 0 m ((m - 0) / 2),pW!,b1o em ed nd z rfl rfl rfl rfl rfl rfl rfl J,pX!,(lo+hi) / 2,pY!,Str.ofString "outline",pZ!,(by rw[hA.cl h hh];simp),p0!,some (.inl if!),p1!,(by cases hh),p2!,av.map B_,p3!,some (.inl (.inl o.h)),p4!,λh hh=>?_,p5!,Ax k X.A.in1.in1,p6!,λd q=>Yo d=some q,p7!,∀H':Hp,H' a=none->Qs X O H' a,p8!,Paired cO_ ds us,p9!,(by rw[CU];omega)]
def z'pp:String:=z [pa_,List D->Mh->Prop,pb_,((bV_+(m+1):Nat):Int),pc_,.refl st.or.sub,pd_,λ_=>g,pe_,MT X own c ft,pf_,Ev.laid x1.sub hp,pg_,D.str.inj z,ph_,⟨⟨o,q o z1,z2,z3⟩,z4⟩,pi_,⟨cJ_,rfl,kd_,ei!⟩,pj_,rs.take k,pk_,Bd fw! aZ_=_,pl_,.dct (k3 (.lst (rows'.map Cp)) fy_ en_) e,pm_,aw wn yI!,pn_,[some eo_,H_],po_,((ap!:Nat):Int),pp_,.lst ((ep!).take a),pq_,.dct q.2.1 q.2.2,pr_,!decide (x=i),ps_,[x!,aT!,H_,some ps!],pt_,(cI!).trans x3 m2,pu_,Aa 2 ρ=some eh!,pv_,(by rw[hA.rw_];simp),pw_,.bl q.2.2,px_,((n:Nat):Int),py_,.inr (s.noF z),pz_,.nx cf_,pA_,.obj C (Dk x y fs),pB_,[x!,N!,fF!,bk_,y4,none,none,none,none,none],pC_,some (.int (at_:Nat)),pD_,.lst ((ep_).take at_),pE_,MI X own tg iter fi,pF_,(by simp[c]),pG_,⟨rfl,k⟩,pH_,fV s.heap d es ep,pI_,Nq x.d=none,pJ_,Cg N w E!,pK_,⟨0,?_⟩,pL_,.str "texts",pM_,AT.mp z,pN_,[none,none],pO_,cs.map λc=>.fn c.1,pP_,HT.lexLt ms ns,pQ_,λx h=>(by cases h),pR_,(by rw[AY,hw.len];rfl),pS_,(by have:=hw.b1;omega),pT_,ρ[i]?=some nH_,pU_,∀k h1,SB kd a0 h1->1<=k->k<=n->Up r y_ k->Q (some k) h1,pV_,some (.lst [bR_,bR_,bR_]),pW_,(by rw[BK];rfl),pX_,os.filter λo=>p o.h,pY_,kl.length,pZ_,.int ((k3!).length:Nat),p0_,Gw (f:=fC .non) (d:=.non) rfl,p1_,λh hh=>p1!,p2_,(p2!).map kf,p3_,(by show 4<100;decide),p4_,O++[er_],p5_,ku.length,p6_,AT.mp y,p7_,seqObj "list" #[] e1,p8_,Rc es! ds,p9_,dn.map λo=>ld!]
def z'q:String:=z [qa!,[q_,P_,Q!,ag_,y4,y5],qb!,.lst fP!,qc!,Cc (d:=.fn p) rfl,qd!,checkCount "sorted" 1 1 _,qe!,⟨_,kh,rfl⟩,qf!,mixKind prog w,qg!,(by rw[he];rfl),qh!,seqObj "list" its.toArray 0,qi!,ms.map Op.nm,qj!,ut.mem_iff.mp ho,qk!,ys.map λ_=>true,ql!,ItemsOf pJ! acc ag!,qm!,Paired.mapP ok.1 λ_ _ z=>z.1,qn!,(show h.get? a=some _ from x),qo!,λv d=>Oq h3 v (aQ d).1 (aQ d).2,qp!,Ek t M a ta wa .non [] [] ca,qq!,seqEpoch_at lj rfl ?_,qr!,W.methodObj ah_ (.ref y),qs!,Rg fT_ (Wu h3 p.1.1)<Rg fT_ (Wu h3 q.1.1),qt!,(show Ke X.prog X.w H s.heap d du! from I.hok d _ e2),qv!,.tbl (ps++om),qw!,[q_,fx_,none],qx!,∀{σ:Addr} {af:Value} {A:Around} {outer:aq_} {s:Shared} {H:Hp} {E:XK},Ax k oh_->MSs (oi!).nox [] h2 bP_ q,qy!,W.fnOf "__init__" qual jl! bP_ bA_ .none kV bn pm an af ct,qz!,oB (fX .str (Re S) []) (Re S),qA!,List.range cQ_,qB!,Ow bX_ hob hF4,qC!,X.env.kindOf x=some .cell\/X.env.kindOf x=some .free,qD!,(by rw[BJ L];exact hK),qE!,[q_,aT!,none],qF!,.Pass ⟨0,0,0,0⟩,qG!,BE cS! I.ok.above,qH!,[ak!,ar!,fY_,"ahead","follower"],qI!,[ak!,"names",ar!],qJ!,[ak!,bd_,"parent","sibling","place"],qK!,[ak!,qJ_,bd_,"behind","text","ahead","k","sign",ar!],qL!,(∀y',R (.nx [q_,P_,x!,y']) M),qM!,⟨_,au,a9,hL,r'⟩,qN!,[fY!,"words",cq!],qO!,[fY!,h4_,"left_out",cq!,ar!],qP!,λb u e=>?_,qQ!,(List.range 4).map λi=>D.int cM!,qR!,[az_,"fresh","times",ar!,"time"],qS!,[az_,cq!,"known"],qT!,[az_,ar!,h4_],qU!,e1.trans e2.symm,qV!,[bH!,"_law_found",cU_,aY!],qW!,[cT_,h7!,lE!],qX!,λj y v' e1 e2 e3=>?_,qY!,[bG_,h7_,bH!,h7!,cT_,"_law_items_here",aY_,lG!,"_law_kinds","_law_kind","_law_sign","_law_names"],qZ!,[bG_,h7_,"_law_many",bH!,"_law_counts","_law_times",aY!,cT_,h8_,ey!],q0!,some (.inl (.inr "texts")),q1!,⟨u',r',?_⟩,q2!,[cq_,aY_,q1_,q3!,lF_,h8_,aY!],q3!,"_law_sibling",q4!,[cq_,cU_,ey!,lJ!,"_law_good",lF_,h8_,aY!,"_law_new",lJ_],q5!,[bH!,cq_,"_law_undone_here",cU_],q6!,[f4!,bH!,cq_,aY_],q7!,[q_,aW_,x!,y'],q8!,(pX_).map Op.v,q9!,backTo pos lM_]
def z'qq:String:=z [qa_,Qh g q.2,qb_,(cp!).push cp_,qc_,λx L=>hk x ch!,qd_,(by rw[CI];omega),qe_,(λq=>nomatch q),qf_,∀M',Ek t M' a ta wa out [] [] ca->R .non M',qg_,(s1.heap.push cp_).update s1.heap.objs.size (Obj.mapSeq (·++aO!)),qh_,(qg_).push qh!,qi_,(by rw[(Ew _).length_eq,CI];omega),qj_,.tup (p.1.map kV),qk_,CJ (by rw[CH,hi.1];omega),ql_,(∀f,dI (fs.lookup f) (mA f)),qm_,λq e=>Fu K G q.1 e.key,qn_,(λb J=>by rw[lc!];exact gc),qo_,∀b xs,H b=some bc!->H' b=some bc!,qp_,L'.map (·.1.2),qq_,[q_,cP!,some I_,none],qr_,(l.filter λx=>p x||q x),qs_,(b3b λys Q H=>∀l,H l=none->Q i5! i5_),qt_,∀b u,b≠e->h.get? b=some u->h'.get? b=some u,qu_,ks.map D.int,qv_,Fn (aS dL_) a3_ hX_,qw_,([]++kl.flatMap (hs S)).map Op.v,qx_,(by rw[hp.length_eq];exact hS),qy_,Ek t M a ta wa .non S kl ca,qz_,Cc (d:=.non) rfl,qA_,h.get? b=some o,qB_,.bl (decide (Lb W x)),qC_,∀K:D->Mh->Prop,(∀M' o rl,OS t M' a o rl W->Q M'->K ae_ M')->Es t [ah!] M K,qD_,I.ok.noex b o e,qE_,Ii bY_ bd! (jM h hk L),qF_,Array GenState,qG_,λb o e L=>?_,qH_,[ak!,ar!,"ahead","follower"],qI_,λi x v e1 e2 e3=>?_,qJ_,"operation_name",qK_,[ak!,bd_,"first","many","k",ar!],qL_,(λ_ z=>nomatch z),qM_,λz hz=>L z k2!,qN_,[fY!,"words","names",cq!,ar!],qO_,⟨#[],by rw[e];simp⟩,qP_,[az_,lC_,"fresh",cq!,ar!,"same"],qQ_,∀b u,s.heap.get? b=some u->h'.get? b=some u,qR_,[az_,"many","found"],qS_,[az_,lC_,"many",cq!],qT_,[az_,bd_,h4_],qU_,storeName X.env x u,qV_,.lst [.tup [q1,p]],qW_,⟨h2_,h2_,I.base.free,qG_,I.base.tups,I.base.frzs,I.base.tbls⟩,qX_,(by simpa using I.len),qY_,Ke P w H h a o,qZ_,[bH!,"_law_found",cU_,h8_],q0_,[bH!,"_law_last",cU_],q1_,"_law_parent_here",q2_,z.sameBut hs (cne y c e),q3_,[cq_,aY_,lG!,"_law_above"],q4_,[q_,aW_,x!,none],q5_,Cc (d:=pL_) rfl,q6_,[bG_,bH!,f4!,"_law_message","_law_handed"],q7_,Bool->Hp->Prop,q8_,α->Shared->Prop,q9_,ta Z H λx H1=>tb Z H1 λy H2=>R x y H2]
def z'r:String:=z [ra!,∀v u s2 x y H2,Inv X O Z H2 s2->Ds x v->Ds y u->R x y H2->wpAny e_ X.A (f v u) Q X.xe s2,rb!,λv ai=>wpAny e_ X.A uR_ (λu ak=>wpAny e_ X.A (f v u) Q X.xe ak) X.xe ai,rc!,f1 Ik (Ad (Ji i_ Cb cX!) Ao),rd!,tM (h.op o ho).dg,re!,.Constant .none j pos,rf!,(by rw[I.ok.glob];exact I.mod.glob.keeps I.bk),rg!,op==CmpOp.In,rh!,os.filter λo=>(o.h==5),ri!,Gq (ha O s Z H Q I h) λc s1 e=>?_,rj!,⟨H1,I1,q1⟩,rk!,h O s Z H Q I hw,rl!,Gq (hc O s Z H _ I h) λd s1 ⟨H1,I1,q1⟩=>?_,rm!,(by simpa using hs),rn!,⟨ok.mod,ok.kind,ok.glob,ok.blt,ok.above,ok.inj,ok.has,ok.cab,ok.hd,ok.frames,ok.stk,ok.exf,ok.bs,ok.bsz,ok.noex,ok.exfs,ok.funs,ok.frf⟩,ro!,Li as_ Dm E_ Bi r_,rp!,Li a3c a3l E_ Gv r_,rq!,.Return none pos,rr!,(λ_ s'=>∃hx H',Inv X O hx H' s'/\Q hx H'),rs!,Ap (wlS (iF 1 y!)) (Ba 2 (w2 Dz c0! F!)),rt!,ho O s Z H _ I h,ru!,Am (Me T.U2 T.V6 o! cu!),rv!,Bw (Df (Av An Au E_ (Bv Kh Ki al! f9_) s_)),rw!,Ba 4 (wIf (wT rv_) F! ii!),rx!,Ei lZ_ u! a1_,ry!,Bs t.B4 "numbers" i!,rz!,Bv Bc Cz al! Ae,rB!,Gk (Ai aI! lU!),rC!,(∀b∈fp,Qs X O H b),rD!,En (Bx t.B5 "put_behind" 3 (Fs t) (w2 Dz eF! F!) (Ac gf! xh!)),rE!,Ei rD_ gf! (wl bx!),rF!,f2 Bd dI_ G_,rG!,Ba 5 (wl (f2 Bd (Ji y! Cb cX!) (Cf gg!))),rH!,Gn.cons (j:=2) Gn.nil,rI!,w2 Dz ry! u!,rJ!,λb o J e=>(sb.2 b J).trans e,rK!,Bg (Md T) c_ rfl (Ai E_ (Ai rz! Aw)) aB_,rL!,Ai (Bg gi_ c_ rfl (Ai aD_ gj!) aB_) (Ai dJ_ Aw),rM!,Ba 1 (Ay 1 Kb aQ!),rN!,fT (f1 Ch gl_),rO!,.Name "range" p,rP!,starEach ai! X.env=[dK_,it_],rQ!,starEach [b] X.env=[it_],rR!,Bv Xv Xw bf_ Ae,rS!,Fj (fT (f2 Bu bx_ (fC iu!))),rT!,Ac b5! (Ac ii! (Ac b2! Ak)),rU!,Fj (fT (f2 Bu bx_ (fC gn!))),rV!,λb J=>(iu_).1,rW!,T.obj _ _ lu,rX!,AS _ (AS _ (Tp J e)),rY!,wT (w2 in_ a1_ F!),rZ!,Eh Ff Jj rfl T.R0 Jd (Ai bf_ Aw),r0!,Value->Sem Value,r1!,c8n ha J I h λv u s2 x y H2 I2 rx ry q=>ho O s2 Z H2 x y v u Q I2 rx ry q,r2!,Ap (Hm t.B3 "taken" i! Jk) (Ap (Hm t.B3 "waiting" i! (Yq Ak)) mf!),r3!,w1 a3z (Ac (Ou dL_ u! mg!) Ak),r4!,intBits_le_64 B Y,r5!,tE λi j=>.int (i - j),r6!,Co bM! Wg al! aC_ r_,r7!,w2 (λ_=>Su) (wl mk!) r6_,r8!,Bj (wT (w2 is! (Bx t.B3 "have" 2 (Ix t) i! aJ!) a2!)) (Bz a2!) Di,r9!,wT (Ay 2 (Lm t) dM_)]
def z'rr:String:=z [ra_,os.filter λo=>cr!,rb_,if(J_).length<=big then Option.map D.lst (Io _ _ _ a9! J_)else none,rc_,.Constant bv_ j pos,rd_,f2 Ed i_ cg_,re_,eval cY_ X.env,rf_,bootBuiltins x=some u,rg_,op==CmpOp.NotIn,rh_,[dF_,.fn t.A8,.fn t.A9],ri_,Gq b1! λc s1 ⟨H1,I1,q1⟩=>?_,rj_,Bg (Vz T) c_ rfl b1_ aB!,rk_,Nf (Lg (Ub Yb rfl T.Q9 rfl T.S0 Fy dC E_)),rl_,Bg (Qf T) c_ rfl lU! aB!,rm_,Bg (Qe T) c_ rfl (Ai (Hy E_ Jq dH!) Aw) aB!,rn_,Bg (Qe T) c_ rfl b1_ aB!,ro_,aT (Iy b2! b2! aR),rp_,swapsWith e none pos.line X.env=pure false,rq_,St->Hp->Prop,rr_,Fj (fT (f2 Bh y! cg_)),rs_,.Subscript o i pos,rt_,eval i X.env,ru_,Gq c0_ λv s1 ⟨x,H1,I1,r1,q1⟩=>?_,rv_,Bx t.B4 "has" 2 gc_ i! eD!,rx_,En (Bx t.B5 "put_behind" 3 (Fs t) (w2 Dz ct_ a1_) l1!),ry_,Ei ry! u! (a5f l2! (wl cZ!)),rz_,.While c body [] pos,rA_,(by rw[z];exact J),rB_,λ_ _ _ _ _=>rB!,rC_,letOwnedTupleGo tg b2_ u,rD_,Bs t.B4 "written" i!,rE_,PIE X O Z tg R,rF_,["enumerate","zip","dict_itemiterator","dict_reverseitemiterator","odict_iterator","itertools.zip_longest","itertools.pairwise"],rG_,w2 Dz eF! u!,rH_,Bj (wT (Bx t.B5 "holds" 2 (Oi t) rG_ xh!)) (Ei (Bs t.B4 "hidden" i!) (wl H!) gg_) Di,rI_,(by simpa using hu),rJ_,Em (Bx t.B4 "signs_of" 2 (Hd t) i! aJ!),rK_,hl O s Z H _ I h,rL_,Bj (Fj (fT (f1 Ch b4_))) (Ei u! xZ! (wl gk!)) Di,rM_,(((oO!).toNat:Nat):Int),rN_,starEach [a] X.env=[dK_],rO_,.Call rO! [a] [] pos,rP_,Fj (fT (f2 Bu bx_ (fC eI!))),rQ_,.Call rO! ai! [] pos,rR_,Bv Kh Ki rR! Ae,rS_,Fj (fT (f2 Bu bx_ (fC mb_))),rT_,.For tg iter body [] pos,rU_,Fj (fT (f2 Bu bx_ (fC dG_))),rV_,Fj (fT (f2 Bu bx_ (fC iv!))),rW_,step x H5 y5,rX_,Ba 1 (Np t.B4 1 (Pn t) Ak),rY_,I7.pin (b,o) rX!,rZ_,Ac u! (Ac a1_ (Ac (wl md!) Ak)),r0_,Bj rY! (En (Ay 3 (aH t) rZ_)) Di,r1_,Hm t.B3 "ours" i! u!,r2_,(.int by! s.toks),r3_,⟨.int by!,H,a0_,K_,q⟩,r4_,wT (w2 (λ_=>Ed) go_ b2!),r5_,Bj r4_ (Hm t.B3 "outline" i! (Ay 1 (Ql t) mi!)) Di,r6_,Bx t.B3 "have" 2 (Ix t) i! (Ac (wl mk_) Ak),r7_,w2 is! (wl mk!) (w2 dG r6_ (wl v_)),r8_,Em (w2 dG eK_ u!),r9_,wl (f2 Aq L_ F_)]
def z's:String:=z [sa!,compareOp .NotEq,sb!,Bj r9! (Ba 5 (w2 Dz (w2 Dz dL_ r9_) (wl (f2 Hh (f2 Aq L_ v_) v_)))) (Bj sa_ Jg (Ba 5 (Pi F! a1_ aP_))),sc!,Fj (fT sb_),sd!,Bj sc! Jg Di,se!,f2 Aq G_ F_,sf!,compareOp .Is,sg!,wT (w2 (λ_=>Su) a1_ (Ou F! eM! (Ay 2 (Of t) (Ac i! (Ac eM! Ak))))),sh!,λx y H Q=>y=.non/\Q (.bl (!decide (x=.non))) H,si!,λx y H Q=>r x y H Q\/r' x y H Q,sj!,fT (f1 nW (Ad ms_ Ao)),sk!,hc O s3 Z H3 _ I3 q3,sl!,En (Ay 2 (Nl t) (Ac i! (Ac (Ay 2 (Gi t) cv_) Ak))),sm!,Do P! Cj bf! by_ s_,sn!,Ba 2 (Ea 1 [0] (Em eK_) B! (wT (Ay 2 (Nb t) (Ac u! aQ!))) i!),so!,⟨H,a0_,by rw[mW r];exact q⟩,sp!,(show False from e),sq!,Bj so_ (Ap (En (Ay 2 (Xb t) cv_)) (Bz sp_)) Di,sr!,(λxs H Q=>∃i,xs=[bI!]/\Q (.int iB!) H),ss!,Ay 2 (Sm t) dM_,st!,.int (x.cps.getD 0 0:Nat),su!,.builtin "len",sv!,Ap (Bj (Sw (wT (Bx t.B4 "has" 2 gc_ F! aJ!))) Jg Di) dL!,sw!,Option Value,sx!,fT (f1 Ia b4_),sy!,W.plainGet K C name=true,sz!,Bx t.B4 "parent_of" 2 (Ih t) iE! aJ!,sA!,Bx t.B4 "children_of" 2 (Hg t) (Ay 2 (Mg t) cv_) aJ!,sB!,w2 Dz (Bx t.B4 "numbers_of" 2 (Ht t) (Ay 3 (Hf t) (Ac i! (Ac u! eD!))) aJ!) F!,sC!,Bv eL eV aD! Ae,sD!,Cw (f2 Aq i_ (f2 Eg w! dD!)),sE!,f2 Bd w! v_,sF!,Jm (Bf (gJ T) c_ rfl cw_),sG!,W.makesIn K C=true,sH!,fT (f2 Bu gk! (fC gn!)),sI!,oK (Km (f1 Dd (Ad (f2 Aq a3! as!) Ao))) z! (iF 1 sH_),sJ!,f2 Aq y! sI_,sK!,(show∃t,u=Value.str x t from r),sL!,Fe 5 (f1 Xe b4_),sM!,bV w_ (Pk cu! cu! lV),sN!,Lw (fT (Ja "str" bx!)) (Fe 7 cg_) Fo,sO!,Fe 8 (fC (.lst [eI!,eI!,eI!,iu!,iu!,gn!,gn!,dG_,iv!,b4!,l9!,mb_])),sP!,(by rw[e];exact iJ_),sQ!,Li as_ Dm l4_ Bi r_,sR!,Lw (fT (f2 Bu bg_ (fC eI!))) (Cw (Cf (Ad bg_ (Ad (f1 Hu (Ad H! mD_)) (Ad bx! Ao))))) Fo,sS!,λb u q=>AG _ q,sT!,Lw (fT (f2 Bu bg_ (fC mb_))) (Cw (Cf (Ad bg_ l5!))) Fo,sU!,.Attribute e f pos,sV!,Af (Li Xt Xy al! Gv r_),sW!,backTo pos (starEach args X.env),sX!,.Call (.Attribute e m ag) args [] pos,sY!,Dh (Mc T) c_ o! gv!,sZ!,Cn T.U3 T.V0 o!,s0!,Cw (Cf (Ad bg_ (Ad (f1 Hu (Ad (Aa 11) mD_)) Ao))),s1!,Gq (h pos O s Z H _ I hq) λus s1 ⟨xs,H1,I1,r,z,q⟩=>⟨by rw[<-r.length];exact z,?_⟩,s2!,f2 Bd w! (f2 Iu (fC (.int 7)) bw_),s3!,Fe 8 (f2 Eg bx! as!),s4!,a2l 5 b3! (f2 Bd (f2 Bd (Xf 5 b3!) v_) (f2 Eg (f2 Fa bx! as!) as!)),s5!,upd H1 dx hX!,s6!,iF 3 (Cf (Ad (f2 Aq (fC (.lst [I_,(.int 5),mH_])) b3!) (Ad (Xf 4 b3!) (Ad (Xf 5 b3!) (Ad bg_ Ao))))),s7!,fT (f2 Wz G_ F_),s8!,Aj (Af aD_) Az,s9!,starEach aI_ X.env]
def z'ss:String:=z [sa_,wT (w2 is! r9_ (Bs t.B3 "ours" i!)),sb_,f2 Fw H! G_,sc_,compareOp .Gt,sd_,Ba 4 (w2 Dz (w2 Dz u! aP_) (wl R!)),se_,λx y H Q=>y=.non/\Q (.bl (decide (x=.non))) H,sf_,compareOp .IsNot,sg_,Bj sg! Jg Di,sh_,Ei F! eM! a1_,si_,f1 (Eo t) aZ!,sj_,b2d r r' ta tb tc,sk_,Aj by_ (Aj be_ (Aj cu! Az)),sl_,En (wQ (Pi dL_ (wl mk_) (Yq Ak)) u!),sm_,Cd (i:=5) Py.nd rfl b_ sm!,sn_,Fj (fT (f2 Wz (f1 Dd b4_) F_)),so_,wT (Ay 2 (Nb t) cv_),sp_,w2 dG (wl v_) (Ay 1 (Il t) aQ!),sq_,.builtin "abs",sr_,En (Ay 2 (Ku t) cv_),ss_,.builtin "ord",st_,(λxs H Q=>∃x,xs=[.str x]/\eM_=1/\Q st! H),su_,Ay 1 (Es t) aQ!,sv_,⟨.int k_,H,a0_,⟨_,by simp only[AJ];rw[al]⟩,q⟩,sw_,Ap (Bj (Sw (wT (Bx t.B4 "has_item" 2 (Dx t) F! aJ!))) Jg Di) dL!,sx_,Bj (Fj (Gd sx!)) Jg Di,sy_,W.hasDictIn K C=true,sz_,Value×List Value->Shared->Prop,sA_,Bx t.B4 "text_of" 2 (Jo t) iE! aJ!,sB_,some (.builtin "object.__setattr__"),sC_,Av An Au (fM (i:=1) c! sC! s_) Ae s_,sD_,c2_<=sizeLine,sE_,Result->Shared->Prop,sF_,W.findIn K at! "__init__"=some eN_,sG_,.tup [iF!,iF!],sH_,Cf (Ad bx_ (Ad eI_ gl_)),sI_,f2 Eg (f2 Fa w! (f2 Bd v_ (f2 Iu as! i_))) (fC (.int 41)),sJ_,(show∃t,u=Value.int i t from r),sK_,Fe 4 (f1 Ee (Ad i_ cZ_)),sL_,Fe 6 (f1 Hu (Ad (f2 Bd (Ji H! (Ca v_) Cb) (Ji H! Cb (Ca v_))) mD_)),sM_,Fe 7 (f1 Hu (Ad (f2 Bd H! (fC (.lst iI_))) (Ad (f1 Ee (Ad i_ (Ad (f2 Bd w! R!) Ao))) Ao))),sN_,.ins C dx (Uy f y fs),sO_,fC (.int 12),sP_,Fe 9 (f2 Aq b3! (f2 Eg L_ sO_)),sQ_,if g=f then some u else mA g,sR_,eX (Jr (Bg (Wb T) c_ rfl b1_ aB!)),sS_,Lw (fT (f2 Bu bg_ (fC iu!))) (Cw (Cf (Ad bg_ (Ad bw_ (Ad (f1 Hu (Ad H! (Ad (f1 Ee (Ad i_ (Ad (f2 Bd w! as!) Ao))) Ao))) (Ad bx! Ao)))))) Fo,sT_,Fe 10 (f1 Hu (Ad (f1 Xc b4_) (Ad (f1 Ee (Ad i_ (Ad (f2 Bd w! cZ!) Ao))) Ao))),sU_,Lw (fT (f2 Bu bg_ (fC gn!))) (Cw (Cf (Ad bg_ (Ad bw_ (Ad iK_ (Ad (f1 cN (Ad (f1 Ee (Ad i_ (Ad (f2 Bd w! gu!) Ao))) gl_)) Ao)))))) Fo,sV_,f2 Fa L_ sO_,sW_,keywordEach [] X.env,sX_,Lw (Fx (fT (f2 Bu bg_ (fC dG_))) (fT (f2 Bh iK_ cg_))) (Cw (Cf (Ad bg_ (Ad bw_ (Ad iK_ (Ad (f2 Bd v_ (f2 Eg sV_ (f2 Hh f5! (f2 Aq iK_ R!)))) Ao)))))) Fo,sY_,Lw (fT (f2 (a4d false) bg_ (fC (.tup [dG_,iv!])))) (Cw (Cf (Ad (fC iv!) (Ad bw_ (Ad (f2 Eg sV_ cZ!) (Ad (f2 Hh (f2 Eg (f2 Fa L_ (fC (.int 48))) (fC (.int 2000))) (fC (.int 1000))) Ao)))))) Fo,sZ_,Fe 11 (f2 Bd (He 1 [] (Hk y!) B! a1! (Cf gt!)) (Hw (Ad (Cf (Ad F_ (Ad (f2 Bd v_ (f2 Eg L_ gu!)) Ao))) Ao))),s0_,.Tuple es x1 pos,s1_,I1.laid (t':=s1.toks) (λb u e=>AG _ e) x_ ?_,s2_,Fe 7 (f1 Ee (Ad i_ (Ad s2! Ao))),s3_,a2l 4 b3! (f2 Bd (Xf 4 b3!) v_),s4_,Fe 9 (cS (f1 Tx (Ad i_ (Ad (f2 Bd s2! v_) (Ad G_ (Ad gu! Ao)))))),s5_,λv H2=>v=.non/\Q fS! H2,s6_,Ba 3 (wl (cS ic_)),s7_,Gq mb! λus s1 ⟨vs,H1,I1,r,q⟩=>⟨I1.kIn,?_⟩,s8_,.Attribute o m ag,s9_,backTo pos s9!]
def z't:String:=z [tb!,⟨I2.kIn,?_⟩,tc!,wlS (b2u 1 G_ y!),td!,.tup [b4!,l9!],te!,wl (fC td!),tf!,(Value.ref ad!::eR!),tg!,Ei u! xZ! (wl (f2 Bu gk! io_)),th!,f2 Fw V_ w!,ti!,.Call (.Name x p) [] [] pos,tj!,f2 Aq (f2 Aq L_ H!) v_,tk!,(∀v,(x,v)∉binds),tl!,fT (f2 Bh G_ cg_),tm!,(by simpa using Y),tn!,f2 Aq L_ bw_,to!,Fj (Fx tl! tn_),tp!,Ad (Cf (Ad w! b4_)) Ao,tq!,f2 Bd (Ji L_ Cb eT!) (Hw tp!),tr!,fN CX P w K mg base N qual scope f cd A outer s H E,ts!,(show b∈tr_ from z),tt!,Ba 3 (Ea 1 [1] mL! B! (Fj (fT iR_)) (wl dD_)),tu!,x.above y c (EB h),tv!,wl (fC (.tup [f6!,ia!])),tw!,W.fnOf name qual params body scope dV kV bn pm an af ct,tx!,En (Ay 4 Mj tw_),ty!,Ad mk_ (Ad mk! Ao),tz!,Ba 4 (a8n gA_ (wl ty_)),tA!,Ac i! (Ac aP_ (Ac (wl (Yf (fT L_) eI_ ia_)) (Ac gm! Ak))),tB!,Gq mb! λus s1 ⟨vs,H1,I1,r1,q1⟩=>hc O s1 Z H1 vs us Q I1 r1 q1,tC!,Ei tB_ gm! (wl a3!),tD!,f2 Aq (f2 Aq H! bx!) F_,tE!,Bj (Fj (fT tD_)) (Ba 6 (wl (f2 Bd bx! v_))) Di,tF!,λ_ _ _ _ _=>Ce (i:=0) (show([ar!,ak!]:List Str).Nodup by decide+kernel) rfl b_,tG!,if v<0 then(mX_).toNat else min v.toNat n,tH!,if v<0 then max mX_ 0 else min v (n:Int),tI!,Ji H! eV_ Cb,tJ!,((sIx n n hi:Nat):Int),tK!,Ji gB_ Cb cX!,tL!,Ba 9 (Ea 1 [2] (Qt (Km a3!)) B! gh_ (wl (f2 Bd tK! (Cf mY!)))),tM!,Ce (i:=3) Xq.nd rfl bm!,tN!,Ba 1 (aT tM_),tO!,wT (w2 in_ (wl (f2 Aq md! F_)) te!),tP!,Ad se! (Ad (f2 Aq G_ v_) Ao),tQ!,Str.ofString "__getitem__",tR!,f2 Bu dD_ w!,tS!,tR_==0&&(1:Int)==1&&tO_==c5_,tT!,Em (w2 Dz bh_ u!),tU!,Em (w2 dG (wl (fC (.lst [f6!,ia!]))) (w1 mS (Ac m0! Ak))),tV!,wOr (wT (w2 (λ_=>isB true) (Ay 2 gC! dM_) gg_)) tU_,tW!,Ai Ae (Ai Ae m0_),tX!,s3.heap.objs.size,tY!,fM (i:=4) c! ck_ s_,tZ!,fM (i:=5) c! ck_ s_,t0!,Bj (wT (w2 neM tZ_ (w2 Dz (w2 Dz F! iT!) aP_))) dT_ Di,t1!,(r.drop m1_).take m2!,t2!,Ad i_ (Ad (fC lL_) Ao),t3!,Ac (wl as!) Ak,t4!,Ad i_ (Ad (fC (.int 61)) Ao),t5!,Ba 3 (wl (f2 Bd (He 1 [] dN! B! (fT (f2 Bu V_ gu!)) i_) (He 1 [] dN! B! (fT (f2 Fw V_ gu!)) i_))),t6!,call eU_ (v::us),t7!,Ba 4 (wl (f1 a7j gl_)),t8!,(by rw[hj];simpa using ew),t9!,f2 Fw L_ G_]
def z'tt:String:=z [ta_,fT (f2 gtT (Cf (Ad (f2 Aq (Xf 1 iN_) R!) (Ad (f2 Aq (Xf 1 iN_) F_) Ao))) (Cf (Ad dI_ (Ad bx_ Ao)))),tb_,starEach [] X.env,tc_,.cons rfl .nil,td_,Do P! Cj iM! v! s_,te_,wT (w2 bw! (wl gk!) te!),tf_,I.hok.fresh (HK _),tg_,Do P! Cj sZ! v! s_,th_,X.mg x=some at!,ti_,fT (f2 Sj H! eS_),tj_,fT (f2 Fw tj! y!),tk_,Ba 5 (wl (f2 Bd H! v_)),tl_,(by simpa using B),tm_,Cf (Ad G_ b4_),tn_,fT (f2 Bu tn! tm_),to_,Ba 5 (wl (f2 Bd bw_ v_)),tp_,cellsFrom ad! scope.names [],tq_,Ji L_ eT! Cb,tr_,([]:List Addr),ts_,λb z=>absurd z (qm b),tt_,Bj (Fj (Gd (λρ=>((G_) ρ).bind a8r))) dT_ Di,tu_,Cn T.U2 T.V6 o!,tv_,Sw (wT (Ay 3 Yd (Ac i! ik_))),tw_,Ac i! (Ac u! mM_),tx_,∀vs H Q E,sp vs H Q E->bz!=S_,ty_,f2 Bu eI_ f6_,tz_,Ac a2! (Ac a2! (Ac a2! l2!)),tA_,Wm I hg hm hv ?_ hn bc,tB_,w2 Dz mR! b5!,tC_,f1 Dd (Ad H! Ao),tD_,f2 Bu tD! dI_,tE_,f1 Dd (Ad a3! Ao),tF_,Ad (f2 Bd y! (Cf aZ!)) (Ad (f2 Aq mN_ i_) (Ad (fC C_) Ao)),tG_,Ba 8 (Ea 1 [2,3] (Qt (Km tE_)) B! gh_ (wl (Cf tF_))),tH_,f2 Bd (Ji H! Cb eV_) b3!,tI_,Ei bh_ b5! (wl (f2 Bd tH_ tI!)),tJ_,s.heap.IsSliceOf sl vl vu .none,tK_,f2 Aq gB_ R!,tL_,Ei bh_ b5! (Ea 1 [9] (Qt (Hk H!)) B! gh_ (wO (Ac (wl V_) (Ac (wl dD_) (Ac (Yr (wl dE!) (w2 in_ (wl V_) u!)) Ak))))),tM_,Iy gy_ mg! (Iy mM! Jk (Iy iT! Jk aR)),tN_,Ba 2 (Ay 1 Sq aQ!),tO_,sIx items.size items.size hi - sIx items.size 0 lo,tP_,Sw (wT (Ou F! (wl (Cf tP!)) mL_)),tQ_,En (Ay 2 a7p l1!),tR_,((sIx items.size 0 lo:Nat):Int),tS_,Dc (sc:=Ah Xn) rfl r!,tT_,Option Int->Hp->Prop,tU_,wT (w2 neM (Ay 2 (Qm t) dM_) (Ay 2 Oj mM_)),tV_,Bj (wT (w2 neM (Ay 2 (vO t) dM_) (Ay 2 Nm mM_))) dT_ Di,tW_,Bv Bc Cz al! (Bv eM eP Ae bL_),tX_,Ea 1 [3] (Em (w2 Dz F! gy_)) B! (Fj (fT iR_)) i!,tY_,Bj (wT (w2 neM (b1u (Ac (wO (Ac aP_ (Ac (Ay 2 (cM t) dM_) Ak))) Ak)) tX_)) dT_ Di,tZ_,Ea 1 [0,3] (Qt (Km cZ!)) B! gh_ (Ay 3 (Xa t) (Ac u! (Ac F! aQ!))),t0_,BN (hJ xs lo hi) hz,t1_,Bz (w2 (λ_=>isB false) (Ay 2 gC! (Ac i! (Ac (wl (fC sG_)) Ak))) mL_),t2_,Ba 1 (wl (f1 So (Ad i_ m3!))),t3_,Dh (Tj T) c_ o! (Aj gq! Az),t4_,f2 Eg (f1 Ee t4!) R!,t5_,bR (i:=2) (NL:=bF_) (NF:=bt!) (ix:=[0]) Hn.nd rfl b_ rfl c! r! (Dc (sc:=Ah Jl) rfl r!) mW_ c! rfl (Jm gD!) (λ_ _ _ _ _=>Ce (i:=0) (show([cq!,az_]:List Str).Nodup by decide+kernel) rfl b_) ac_ (λ_ _ _ _ _=>gK (Ky (Bf (Zy T) c_ rfl (Aj v! cw_)))) iw!,t6_,Ba 3 (wl (f2 Bd (He 1 [] (Hk G_) B! (fT (f2 Bu V_ (fC mH_))) i_) (He 1 [] (Hk G_) B! (fT (f2 Fw V_ (fC mH_))) i_))),t7_,⟨z,H,I,aj,q⟩,t8_,["check","part"],t9_,slot_list_getitem.lookup]
def z'u:String:=z [ua!,λr s'=>r=w/\EP X O Z Q r s',ub!,(by rw[AJ]<;>omega),uc!,(·.setIfInBounds j u),ud!,CP _ _ (AI J),ue!,(by rw[hk];exact⟨_,I',q⟩),uf!,AO (f:=a_) w,ug!,if a then 1 else 0,uh!,λw hw=>lY rx fx r fs w mX!,ui!,⟨h.no,h.nd⟩,uj!,λh' c' kp e=>fin its r' hz h' c' kp e,uk!,λa ha b J=>?_,ul!,(by rw[P];simp[hm]),um!,λz=>fq.2.2 _ z _ d_ rfl,un!,⟨o,e,ex.2.1⟩,uo!,typeOf eU_=pure (.type "method_descriptor"),up!,.Attribute o name ag,uq!,backTo ac lM_,ur!,Bk i9_ b0 a0,us!,gd.2.2 _ this _ d_,ut!,be.2.2 _ this _ d_,uu!,λ_ _ q=>AG _ q,uv!,Bv Kh Ki (Bg (Md T) c_ rfl (Ai E_ m0_) aB_) Ae,uw!,gj.toArray.size,ux!,λ_ _ _ _ _=>yK (Co bM! Wg aI! Ae r_),uy!,(∀b,b≠f->b≠p->M' b=M b),uz!,⟨?_,⟨_,_,_,_,(mup_ne h.ne).trans mup_same,mup_same,K'⟩,h.ne⟩,uA!,Heap.SameBut a s.heap h',uB!,starEach [e,f] X.env,uC!,[.int a,.int b],uD!,pre_splitW va,uE!,AO (f:=a_) this,uF!,⟨_,h.mem.mpr aH!,rfl⟩,uG!,if x=n then[.int 0,.int 0,.int 0,.int 0]else W.num x,uH!,∀(w:World) (h:Heap),YP w h->(bP!).In h,uI!,Fun K x qual st f fd,uJ!,K.lookup f=some ⟨oc,od,.func np!,dt⟩,uK!,.inl (.inr ⟨o,e _ _ h⟩),uL!,⟨o.slots,e⟩,uM!,cells.lookup n,uN!,ForInStep.yield ((name,a)::r),uO!,ForInStep (List e3_),uP!,(if(k==gK!)=true then _ else _)=_,uQ!,w.sg x L q hq,uR!,aO cells r _ x h,uS!,.inr (.inr ⟨ev_,rfl⟩),uT!,∀b∈fp,b<O!,uU!,∀a p,(a,p)∈W.rows->rk p<rk a,uV!,λz=>r1 (q.mpr z),uW!,.ListComp db [⟨ql,iter,cn,0⟩] scope pos,uX!,⟨ar b d3!,hr⟩,uY!,([]:List Value),uZ!,([]:List (Str×Value)),u0!,((jr!).map a_)=_,u1!,I8.pin (b,o) rX!,u2!,(by rw[show hb+(js.length+1)=hb+1+js.length by omega];simpa using h'),u3!,∀cl C ak a8 fp,iQ cd! cn tt,u4!,c3p NL.length ix wi g tt te,u5!,(d6!).map λk=>.tup gQ_,u6!,Beh cu U (U++v),u7!,(U++(s,c,true)::v),u8!,.inr (BN I2.sz hC),u9!,λx c h=>(u8_).1]
def z'uu:String:=z [ua_,(show(t8_:List Str).Nodup by decide+kernel),ub_,[az_,fY!,fY_],uc_,T.V7 _ rfl rfl rfl rfl,ud_,upd H p (.lst (xs.set j v)),uf_,AO (f:=a_) z,ug_,if b then 1 else 0,uh_,(show its.toArray.any gF!=its.any gF! by simp),ui_,⟨h.nd,I!,λa ha b J=>by simp at J;subst J;exact λz=>h.no i6!⟩,uj_,(by simp only[AJ]<;>omega),uk_,(λ_ e=>nomatch e),ul_,be.2.2 a ha b J,um_,⟨⟨o,e,ex.1⟩,λa e2=>?_⟩,un_,Slot T name id,uo_,attributeBase o name X.env dH_=eval o X.env,up_,Gq rt! λv s1 ⟨x,H1,I1,r1,ty,q1⟩=>?_,uq_,Bk i9! a0 b0,ur_,List.replicate k xs,us_,List.replicate k its,ut_,Obj.mapSeq f,uu_,.cons ru .nil,uv_,.lst (xs++zs),uw_,λ_ _ _ _ _=>yK (Co as_ Dm aI! Ae r_),ux_,[bG_,aY!,cT_],uy_,(by rw[j7];simp),uz_,(u++n::v++bN!),uA_,starEach [e] X.env,uB_,ns.map WData.int,uC_,[.int a,.int b,.int c],uD_,u'++[c8_]++v,uE_,(by rw[<-z];exact hq),uF_,(by rw[AW];exact hl),uG_,Params->W.Frag,uH_,(∀(s:Shared) (u:Value),BindsTo s fd jj! [(x,u)]),uI_,∀(kV bn pm:Value) (an:a5!) (af ct:Value) (us:h!),ap_=S_->bindArgs np! c5!=pure c4!,uJ_,.inl (.inl (e _ _ h)),uK_,Str.ofString "hidden",uL_,.obj t.B4 W!,uM_,Str×NameKind,uO_,(by simpa using hk),uP_,V->V->Hp->Prop,uQ_,λp hp=>hn p jn!,uR_,eval b X.env,uS_,X.N[j]?=some x,uT_,mup_ne (AI p2),uU_,(∀p,a7_∉W.rows),uV_,ForInStep.yield ok,uW_,(by rw[z];exact jo),uX_,[⟨tg,iter,cn,0⟩],uY_,cutT [s] bj_,uZ_,(λv z=>by cases z),u0_,λ_ _=>False,u1_,⟨_,_,_,_,_,_,_,_,_,_,_,_,q1⟩,u2_,X.env.kindOf y.1=some .cell\/X.env.kindOf y.1=some .free,u3_,∀cl C ak a8 fp,PE cd! db te,u4_,Gq (bd O s Z H _ I h) λv s1 B=>Gq B λuz s2 Y=>?_,u5_,(d6!).map λk=>z+bb_,u6_,⟨BV (BE J hC),BV (BE J hD)⟩,u7_,λb o J e=>(br.2 b J).trans e,u8_,fg c (ox x c h),u9_,λx c h=>(u8_).2]
def z'v:String:=z [va!,(by rw[z];exact hA.r5),vb!,∀a vs,Kw K H a vs->Kw K H' a vs,vc!,Bb.map ht hl hd xs vs r,vd!,⟨r,f,p,g1,?_,g3,g4,g5⟩,ve!,λ_ _ q=>e.seq q,vf!,⟨a,vs,rfl,h,r⟩,vg!,setT W i (U++(nG!).map d7_++v),vh!,⟨_,_,_,rfl⟩,vi!,(D.tup jy!,D.str am!,true),vj!,(by rw[hl,BK];exact BG _ z),vk!,if i∈W.its then setT W i (wrT b d9_ bj_)else W,vl!,⟨λO s Z H Q I ⟨G,ρ,d,er,e,k⟩=>h O s Z H Q I nK_⟩,vm!,[bR_,bR_,bR_,bR_],vn!,K5 c (nP_).1 (nP_).2.1 (nP_).2.2,vo!,K5 c (nQ!).1 (nQ!).2.1 (nQ!).2.2,vp!,if c=r1 then _ else _,vq!,a6s ho ha.ok J.ok hm,vr!,a6i ho ha.ok J.ok hm,vs!,⟨d,rfl,nS_⟩,vt!,c≠r1/\c≠f1/\c≠p1,vu!,b3n ha.ok J.ok,vv!,c3w ha.ok J.ok,vw!,b4r ha.ok J.ok,vx!,λv G2 H2 s2 r2=>k v G2 H2 df! r2,vy!,c3z ha.ok J.ok,vz!,yM hc.ok ha.ok J.ok,vA!,(by rw[<-Ar r1];exact Mf hl),vB!,s1.sub.free hp,vC!,⟨G,ρ,ds,er,e1,λvs G1 H1 s1 r1=>hd s1.sub r1 e' λv G2 H2 s2 r2=>k v G2 H2 df! r2⟩,vD!,spF X.K ps.length g,vE!,∀ρ ds,fs ρ=some ds->f_=S_,vF!,∀ρ ds,fs ρ=some ds->f_=n,vG!,(by rw[AY];omega),vH!,c1 r' aj_ aj_ aj_ aj_ aj_ aj_ aj_,vI!,k _ G H aM! (hg _ _ G),vJ!,λ_ j=>decide (0<j)&&decide (j<1073741824),vK!,.bl (pS i j),vL!,Ag->Option n0!,vM!,s4.trans g0_,vN!,Ss w.rnd ii z,vO!,Sv (rows:=W.rows) (i:=i),vP!,(λxs H Q=>∃p ys,xs=gF_/\n5_/\∀l,H l=none->Q i5! i5_),vQ!,.builtin "all",vR!,aw r' bD! bD! bD! bD! bD!,vS!,⟨ed!,λhi=>by rw[AW,EV]at hi;exact GX hi.symm⟩,vT!,cs.map λ_=>true,vU!,c7k K 2 (a0b eD_ (a0b (cQ j) c7l)),vV!,⟨Fg (by rw[<-Ar aj];omega),?_⟩,vW!,(n::r).map D.int,vX!,λx0 x1 x2 x3 x4=>(he x0 x1 x2 x3 x4).ok,vY!,λab G1 H1 x1 fh=>?_,vZ!,DS X own bh st q1,v0!,.Assign [cE!] e pos,v1!,[jO_,a,b,dd_],v2!,⟨G',ρ,r,er.grow x',e2,k⟩,v3!,λj d q n=>?_,v4!,⟨_,_,rfl,b1,b2,b3,b4⟩,v5!,.lst (.str "root"::ys),v6!,(λb u e=>by rw[Bt (hG e)];exact s.or.sub b u e),v7!,[e].length+(dW!).length+e0!<30,v8!,.Call (.Attribute bn! "append" ag) [e] [] ac,v9!,Hq h.ok Mx bx]
def z'vv:String:=z [va_,Cg M1 a5 nD!,vb_,∀a kvs,Rd H a dO!->Rd H' a dO!,vc_,ar _ e8! e8! e8!,vd_,λ_ _ q=>Dj e q,ve_,λ_ _ q=>a5u e q,vf_,[aV!,aK_,.int (k':Nat)],vg_,r.mono (Pz h),vh_,⟨v,B,Y.mono x.g⟩,vi_,setT W i (U++nI!::v),vj_,Z[i]?=some ce_,vk_,ttD X.K own f,vl_,∀Z G H Q ρ d,OR X.K own G H Z ρ->ft ρ=some d->(∀G' H',Ev G H G' H'->Q d H')->t Z H Q,vm_,Cg ea_ a4 eb!,vn_,mup_ne (nq c (fw c jB!)),vo_,mup_ne (nq c hc),vp_,a6q ho ha.ok J.ok,vq_,b4o hr ha.ok J.ok hs,vr_,λx H'=>∃k,x=.bl k/\Q k H',vs_,⟨a6g h.ok⟩,vt_,⟨b3m h.ok⟩,vu_,⟨G1,ρ,d,de!,e,λG2 H2 s2=>k G2 H2 df!⟩,vv_,⟨b4k h.ok⟩,vw_,λv G1 H1 s1 r1=>?_,vx_,k _ G1 H1 s1 Bn.bl,vy_,k _ G1 H1 s1 Bn.bl,vz_,Hq h.ok hs.ok bx,vA_,s1.trans (Ev.laid s1.sub hp),vB_,lJ hc hg hm hv ha.ok hn bc he ax,vC_,qK hc hg hm hv ha.ok hn bc he ax,vD_,(by rw[y];exact z),vE_,(aI_).length=S_,vF_,hg.chl_same w.rnd,vG_,(by rw[CI];decide),vH_,(∀i j H,Bn K H by! (gv i j)),vI_,mup_ne (AI (nq a4 (fw a4 (s3 a4 A4)))),vJ_,λi j=>decide (0<=j)&&decide (j<=1000000)&&decide (go!<2 ^ 64),vK_,Ac jJ! (Ac (wl f2) Ak),vL_,(λ(r:Fl) (M':Mh)=>match r with|.rt d=>R d M'|.nx _=>R .non M'),vM_,[C!,dh!,some a,d8!,none],vN_,λa z=>(by subst z;cases e2),vO_,(λxs H Q=>∃x n,xs=[x]/\c8v K x H n/\Q eN! H),vP_,λp hp=>k _ _ _ g0_ (Fi fc! rr),vQ_,(∀d,ds[i]?=some d->ab.go i H'/\∀x gq,ab.yld i H' x gq->∃qz,Ev G' H' qz gq/\Bn K qz d x),vR_,i=f_->ab.stop i H',vS_,cs.map λ_=>D.bl true,vT_,(jM_).any λd=>Jb d aw_,vU_,ItD K ab ds G1,vV_,((n8_).mono x3.g).mono x4.g,vW_,ttD X.K [] ft,vX_,a6r ce b9 jy g9 cap calm bd.ok hg hi vX! hs,vY_,tsD X.K G0 F0 own h2 f,vZ_,swapsWith e (some di!) pos.line X.env=pure false,v0_,a2z hN hi L h.ok hs hf,v1_,.If c b1 b2 pos,v2_,s.or.sub.trans xv,v3_,λy=>NameG y,v4_,(if jQ_<=big then Option.map D.lst (Io _ _ _ a9! ops)else none)=_,v5_,λz=>absurd z.symm cp,v6_,.nx (ρ.set i (some (.lst (ds++[d])))),v7_,some (.tup [.int h',aK_,.int tm,.tup v1!]),v8_,[ax!,oc_,v7_,y],v9_,ρ.set i (some (.lst (ds.set k d)))]
def z'w:String:=z [wa!,.Subscript bn! ix p2,wb!,DE X own ix fx,wc!,λiv G2 H2 x2 r2=>?_,wd!,[none,some eN!,some og!],we!,λi hi p e=>?_,wf!,[some eN!,bn_,some og!],wg!,sSeq d2m (sSeq c7s wf_),wh!,F.ok S (λvs H Q E h=>h.1) (λaf A outer s H vs Q E hr h=>?_),wi!,[U_,an_,ax!,bn_,none,none,none,none,none,none,none,none],wj!,Ha its fi! none++Ha its none fi!,wk!,Ha its none fi!,wl!,(by unfold Ct at h;exact h),wm!,(by rw[AJ,AJ,<-h3,<-h4,<-B,<-Y];simpa using hl),wn!,if f_<=1000 then _ else _,wo!,xO I _ _ _ n n' r r',wp!,⟨dx,dy,rx.mono sub,ry.mono sub,h.1.1,h.1.2,h.2,ec_⟩,wq!,[di_,.int base,.lst ops,.int most],wr!,⟨bb,rfl,?_⟩,ws!,mi.trans (s4.trans s5),wt!,.tup [jP!,item,.int (m0 / 12%4),.int (m0 / 48%2000 - 1000)],wu!,Mt (g:=a4d false) (x:=.str k) rfl rfl (in2 k "cut" "set"),wv!,L2.Key×Value,ww!,λO s Z H Q I h=>?_,wx!,mixKind X.prog X.w,wy!,Ok X.prog X.w X.K X.mg X.base k x ps g,wz!,λi _=>i<fj_,wA!,x.cps.toList.map λc=>.str am!,wB!,∀i h,St' i h->∃o,h.get? it=some o/\∀v,o.data≠.cell v,wC!,Ei ct_ u! ii_,wD!,BF (I.pin p hp).1,wE!,(by unfold Fx;rw[cU rfl (DR _)];rfl),wF!,.str (Txt.join z ys),wG!,λw G2 H2 s2 r2=>?_,wH!,s.heap.IsTuple tt xs,wM!,Obj.cls_mapFields ..,wN!,firstArgMember _ _,wO!,wpAny_handled ?_,wP!,AC (wpAny_throw ?_),wQ!,a∈W.its/\Lb W binn/\¬Wn W.rows a binn,wR!,wrT b he! ao_,wS!,xs[k1]?=some x,wT!,(nG!).map d7_,wY!,Lz W ka! rows',w0!,Builtin.SmallTypes.nextOf pR!>>=_,w1!,ig.extBut b6.extBut D.l1z,w2!,b6.extBut _ _ D.TOz gO,w3!,IW rh λh3 vh c7=>?_,w4!,setT W a wR!,w5!,FI rh rfl ?_,w6!,((il.extBut b6.extBut D.l2z).extBut bm.extBut D.l2i1).extBut c7.extBut D.l2TO,w7!,(List.range m'.toNat).map λk=>.tup gQ_,w8!,ft ρ=some true,w9!,xs[k1]?=none\/ys[k2]?=none]
def z'ww:String:=z [wa_,⟨[],rfl,rfl⟩,wb_,Zw hN xw hd bv,wc_,(x.trans x2).h _ _ h3,wd_,letters.cps.toList.length,we_,Ev G0 F0 G1 H1,wf_,sSeq c2i (sSeq dq14 dq15),wg_,Fun K x qual st σ fd,wh_,J af A outer s H E hr,wi_,⟨er,Ev.refl sub,am_⟩,wj_,Ha its fi! none,wk_,kY I xs ys vs n n' rr bu,wl_,(List.range (min us.toArray.size ok!)).all (λj=>Jb oj! oj_)&&jY_==ok!,wm_,Nat.ble ds.length 1000=true,wn_,AN (Nat.le_of_ble_eq_true hl),wo_,A.units+Ot d<cLine,wp_,Ep g g' fa fb fc,wq_,⟨G,ρ,x,er,e1,λv G1 H1 s1 r1=>⟨G1,ρ,y,de!,e2,λw G2 H2 s2 r2=>hg s2.sub gY! r2 e3 λt G3 H3 s3 r3=>?_⟩⟩,wr_,(r2.mono s3.g).mono s4.g,ws_,("cut"==k||"set"==k),wt_,.str (Txt.mul z n),wu_,.bl (if neg then !(ds.any λd=>Jb d x)else ds.any λd=>Jb d x),wv_,yX rfl rfl e1,ww_,ha.ok O s Z H _ I h,wx_,b6e (k:=op!) r1,wy_,List D->Option D,wz_,λi _=>fj_<=i,wA_,⟨(GV.mp hc).1,λv gq hy=>?_⟩,wB_,λi h=>i<=fj_/\St' i h,wC_,Ei eF! u! ii_,wD_,λi h st=>LG _ i h st,wE_,ys.map V.str,wF_,Hq ha.ok Mx hs,wG_,s.heap.IsTupleIter jt tt n,wH_,Builtin.SmallTypes.nextOf or_,wM_,newExc (.type "StopIteration") []>>=_,wN_,(by first|rfl|(simp only[firstArgMember];rfl)),wO_,show A.in1.handled=none from hh,wP_,a∈W.its/\Lb W b/\¬Wn W.rows a b,wQ_,((eg!).extBut.push _).push _,wR_,[aV!,aK_,g4_],wS_,ys[k2]?=some y,wT_,Builtin.«zip.__next__» ⟨[.ref z],[]⟩,wU_,D.tup ci_∉pre,wV_,pre++[.tup ci_],w0_,Dv g1 b6.extBut D.i1z,w1_,tX w0_ w1! gx λY LH bm=>AC ?_,w2_,(nn!).resolve_right e,w3_,hg.winv w.inv hc.1 hc.2.1 hc.2.2,w4_,Builtin.SmallTypes.nextOf ot!>>=_,w5_,Dv (Dv (Dv g2 b6.extBut D.i2z) bm.extBut D.i12.symm) c7.extBut D.TOi2.symm,w6_,c7.extBut _ _ D.TOz.symm (bm.extBut _ _ D.i1z.symm k9),w7_,λv hv q hq=>?_,w8_,ft ρ=some false,w9_,b6.extBut _ _ c1 x]
def z'x:String:=z [xa!,⟨_,gz,rfl⟩,xb!,F.args_zip_next_1 _,xc!,"StopIteration",xg!,zp2 s.heap l1 l2,xh!,Ac (wl H!) Ak,xi!,⟨fz.2.2.2.1,fz.2.1,fz.2.2.2.2.1,fz.2.2.2.2.2⟩,xj!,⟨f1.2.2.2.1,f1.2.1,f1.2.2.2.2.1,f1.2.2.2.2.2⟩,xl!,λc o _ _ _ e _=>e,xm!,λc o hc e n=>?_,xn!,(λc xs e=>by rw[oE_];exact e),xo!,λx L=>h x ch!,xp!,I1.hok c o e,xq!,λ_ K hK=>hK,xr!,X.mg "zip"=none,xs!,starEach ai! X.env=dK_::starEach [b] X.env,xt!,.Call (.Name "zip" p) ai! [] pos,xu!,k="undo"\/k="redo",xv!,∀a,k' (f a)=k a,xw!,⟨G,ρ,_,er,e1,λv G1 H1 s1 r1=>⟨G1,ρ,_,de!,e2,wG!⟩⟩,xx!,λx=>Bu x aw_,xy!,(show oI_=true by decide+kernel),xz!,fX oL! os hb,xA!,.nx [P_,Q!,y'],xB!,⟨trivial,hR M ep y hp λb _=>rfl⟩,xC!,Cg M p (.dct (Bk acc a U!) (Lq acc a ep)),xD!,λM' a9 y' B Y=>hR M' a9 y' xC_ Y,xG!,λo ho=>hd o (bq.mem_iff.mp ho),xH!,λM' ep y B Y=>hR p M' ep hp B λb J=>(Y b J).trans kg_,xI!,W.fnOf x x jl! bP_ bA_ .none kV bn pm an af ct,xJ!,∀(kV bn pm:Value) (an:a5!) (af ct:Value) (us:h!),ap_=S_->bindArgs xI! c5!=pure c4!,xK!,(∀b,b≠q->M' b=M b),xL!,[P_,Q!,aX!,ag_,z],xM!,(Sum.inr r.1:L2.Key)=Sum.inr y,xN!,Sum.inr.inj z,xO!,⟨rfl,rfl,rfl⟩,xP!,[aW_,Q!,aX!,none,none],xQ!,fs.map Value.ref,xR!,λi p h=>xQ_,xS!,(show v=.none from L),xT!,HE hT FP.lookup ?_,xU!,Yn ks k=some j,xV!,.obj t.B4 hq!,xW!,dM P w s.heap es ks,xX!,o.data=.dict es ep,xY!,Dk e3! (.fn a4) oZ!,xZ!,wl (f2 Aq a3! v_),x0!,ks[i]?=some k',x1!,(by rw[<-e];exact q1),x2!,dictSet a u v,x3!,if root=root then _ else _,x4!,EJ (s:=el_) ho hd ?_,x5!,Builtin.Dict.takeOut a u,x6!,(∀x∈os,x.nm∉pre),x7!,Bv Kh Ki bf_ Ae,x8!,(show hb+20*(os.length+1)=hb+20+20*os.length by omega),x9!,(by rw[show Op.nm x=Op.nm y from z.symm];exact AO hy)]
def z'xx:String:=z [xa_,F.entry_zip_next,xb_,[C!,dh!,some d],xc_,Ac jJ! (Ac (wl f2) (Ac (wl f3) (Ac (wl f4) Ak))),xf_,zp1 s.heap l1,xg_,zp3 s.heap l1 l2,xh_,k="undo"\/k="redo",xi_,⟨fO.2.2.2.1,fO.2.1,fO.2.2.2.2.1,fO.2.2.2.2.2⟩,xj_,⟨f2.2.2.2.1,f2.2.1,f2.2.2.2.2.1,f2.2.2.2.2.2⟩,xl_,λc o _ _ _ e _=>uL!,xm_,λc o _ e=>⟨o,e⟩,xn_,(λc o u e=>by rw[oE_];exact e),xo_,λc ps e=>⟨#[],by rw[oE_,e];simp⟩,xp_,(λd q=>by rw[oG!];exact q),xq_,.lst ((dm!).map ke!),xr_,bootBuiltins "zip"=some oz!,xs_,(backTo pos (starEach [b] X.env)).any a_=false,xt_,Wv (.str dk!) _,xu_,.tup [kf!,hj!],xv_,(a.map Op.key).Nodup,xw_,(λx y H Q=>tE (λi j=>.bl mp_) x y H Q\/∃i j,x=.str i/\y=.str j/\Q vK! H),xx_,(show oI!=true by decide+kernel),xy_,fX .str os A,xz_,fX .str os acc,xA_,Lj K mg x st ps,xB_,((Aq o.v aA_).bind λx=>Aq x aZ_)=_,xC_,(by unfold fX;rw[hu];exact B),xD_,⟨G,ρ,_,er,e,k⟩,xE_,Ng (n:=10) rfl,xF_,[aW_,none,none],xG_,(by rw[bq.length_eq];simp;omega),xH_,W.nsIn K mainGlobals x=some eN_,xI_,K.lookup f=some ⟨oc,od,.func xI!,dt⟩,xJ_,W.codeIn K af x=true,xK_,(λx=>by simp),xL_,rows.map (c5m w),xM_,(λz=>by simp at z),xN_,(oS!).getD .non,xO_,(∀b,M b≠none->M' b=M b),xP_,fs.map V.ref,xQ_,(by simp[W0]at h),xR_,(λxs H Q=>(∃i,xs=[bI!]/\mw_<1920/\Q mx! H)\/∃z,xs=[.str z]/\Q i3! H),xS_,⟨by rw[AT];exact a6c,I!⟩,xT_,mup_ne (AI jp),xU_,(by rw[ze,p9];simp),xV_,Option Nat->Shared->Prop,xW_,s.heap.get? d=some o,xX_,dictWalkPlain d u dp! es km_,xY_,(by simpa using b7),xZ_,λe=>hh (by rw[q3,e];simp),x0_,bd=none/\rest.find? do_=Yn ks k,x1_,cR (s:=el_) hu x hk ho hd ?_,x2_,jI ho hc hd (by simp[c0g]),x3_,(if root=binn then _ else(if binn=binn then _ else _))=_,x4_,es.eraseIdx j,x5_,(by simpa using am),x6_,(∃F',WOk W' F'),x7_,h5 q (by rw[nv];simp) jo,x8_,λy hy z=>?_,x9_,∀c,rl c≠.oth->M' c=M c]
def z'y:String:=z [ya!,⟨r',f',p',v1,v2.keep (k _ bD!) (k _ cE_) (k _ cF!),v3,v4,v5⟩,yb!,(ops.map Op.nm).Nodup,yc!,[aW_,C!,none,none,none],yd!,hp.mem_iff.mp L,ye!,(kq!).nodup_iff.mpr nn,yf!,.ins C dx vs,yg!,Nh P w K G H a c,yh!,MR P w K M1 G1 H1,yi!,⟨?_,Y.mono x.g ?_⟩,yj!,D->Mh->Prop,yk!,tmT X.prog X.w X.K own f,yl!,∀Z G H Q ρ M R,wJ X.prog X.w X.K own G H Z ρ M->ft ρ M R->(∀d M' G' H',R d M'->XM M G H M' G' H'->MR X.prog X.w X.K M' G' H'->Q d H')->t Z H Q,ym!,acc.map Op.v,yn!,⟨_,rfl,k _ M' G' H' r' x' m'⟩,yo!,k _ M1 G1 H1 r1 x1 m1,yp!,λd M2 v G2 H2 r2 x2 m2 q2=>k d M2 v G2 H2 r2 cI! m2 q2,yq!,x1.trans (.ext pf_) m1,yr!,BEq.comm (a:=Str.ofString "undo"),ys!,Bk acc u.2 fn_,yt!,⟨B,Y.mono (Cv.refl G) (Bt J)⟩,yu!,if _ then _ else kw_,yv!,.dct o5! (Lq kvs d ep),yw!,kget kvs d=some x,yx!,decide (q.2=x),yy!,.builtin "dict.get",yz!,⟨o,rfl,h ho⟩,yA!,Dd [.lst ep!]=_,yB!,Builtin.Dict.keyAndDefault,yC!,(f1 Dd gg! bq_).bind (λz=>Sj fw! z)=_,yD!,IB (AC ⟨_,rfl,q3⟩),yE!,((List.range' k m)).map λj=>D.int o6!,yF!,(by rw[cond,AU z]),yG!,a5b M w rl W wt wn qa,yH!,⟨aw b d3!,hr⟩,yI!,(by rw[hA.rn];simp),yJ!,!decide (q.1=i),yK!,(rs.take a++bN_::rs.drop a),yL!,.lst ((ep!).take a++[Cp bN_]),yM!,oA X.prog X.w X.K r g,yN!,⟨wt,wn,qa,g1⟩,yO!,Ev.laid sub hl,yP!,Addr×List ay!×Nat,yQ!,(Aq eo_ I_).bind yx_=_,yR!,FY (EX (ha.run I1 fD_ r1 λy M2 yv G2 H2 iv s2 r2 x2 m2 q2 I2 ry=>GP ?_)),yS!,(fD_).grow x2 m2,yT!,(cm!).mono x3.g,yU!,⟨zv,q3,rz⟩,yV!,⟨_,dK!,xO!,rfl⟩,yW!,I.laid (t':=s.toks) uu! x_ ⟨⟨D0,EA.mpr (AI (BV I.big)),CG _⟩,let⟨o,h,_⟩:=D0;ph!,yu_⟩,yX!,List ay!->Mh->Prop,yY!,Fj (knd "move"),yZ!,Mm (Fj (knd "set")) zX,y0!,Bj (Mm (Fj (knd "write")) zX) vT (Bj (Mm (Fj (knd "cut")) zX) b7l Di),y1!,PUnit->Shared->Prop,y2!,b=true->q1 ρ M R,y3!,Cg M c (.dct (acc++kvs) (n+az!)),y4!,(by rw[AY,DN];omega),y5!,Cg M s.heap.objs.size E!,y6!,tmS X.prog X.w X.K M0 G0 F0 own h2 f,y7!,(ao_).length<5000,y8!,[e7!,e7_,.int (z+k)],y9!,λb o e J=>?_]
def z'yy:String:=z [ya_,(by rw[cr,i1];rfl),yb_,(∃pre,WOk W' pre),yc_,[aW_,C!,aX!,none,none],yd_,(λx _=>by simp),ye_,(by rw[e3,e1];exact J),yf_,some (.lst (l.map Op.v)),yg_,((j+1:Nat):Int),yh_,(by rw[hM];simp),yi_,MR P w K M' G' H',yj_,List D->Mh->Prop,yk_,⟨λO s Z H Q I ⟨G,ρ,M,R,st,e,k⟩=>h O s Z H Q I pb!⟩,yl_,⟨_,by assumption,h⟩,ym_,wJ X.prog X.w X.K own G H Z ρ M,yn_,⟨G1,ρ,M1,R,kv!,r1,λd M2 G2 H2 r2 x2 m2=>k d M2 G2 H2 r2 cI! m2⟩,yo_,[aW_,fx_,none,none],yp_,k _ M1 _ G1 H1 r1 x1 m1 Bn.bl,yq_,x1.sub.free hp,yr_,BEq.comm (a:=Str.ofString "redo"),ys_,Lq acc u.2 ep,yt_,[q.1,q.2.1,.bl q.2.2],yu_,λB Y z q=>?_,yv_,∀au s',Inv X O Z ky_ s'->Nh X.prog X.w X.K G ky_ a yv!->Q () s',yw_,⟨_,rfl,CA h⟩,yx_,λz=>Bu z x,yy_,∀q∈rs,Sd q.1/\Sd q.2,yz_,(match rs[k]? with|some q=>!decide (q.2=p)|none=>false),yA_,.bl (!decide ((dr_).2=p)),yB_,vU I B D' br h4 ?_,yC_,CZ fin (λao s' ⟨e1,o,q1,q2,q3⟩=>?_) λ_ _ z=>z,yD_,[N!,H_,cc_,bT!,fB!,hz!,y],yE_,ifT (by rw[cond,BJ z]) ?_,yF_,gZ (A:=X.A) a! I m sub e ⟨_,r,rx⟩ hk λs' I'=>AC ⟨.bl _,H,I',rfl,q⟩,yG_,.inr ⟨j,t_,Y,h3⟩,yH_,λb _ hr=>yH!,yI_,[x!,H_,cc_,bT!,none,none,none],yJ_,.inl ⟨rfl,λj hj=>by omega⟩,yK_,.lst ((ep!).drop a),yL_,some (.inl (.inr "rows")),yM_,x1.trans kG! m1,yN_,⟨ys,z,rfl⟩,yO_,λq=>decide hA_,yP_,Cg M2 q.1 (.lst (q.2++[v])),yQ_,.Attribute o "get" ag,yR_,⟨yv,q2,ry⟩,yS_,J.run I2 yS! r2 λz M3 zv G3 H3 jv s3 r3 x3 m3 q3 I3 rz=>GP ?_,yT_,⟨yv,q2.mono x3.g,ry⟩,yU_,s.heap.push {cls:=.type "dict",data:=.dict #[]},yV_,dE s.heap.objs.size [] 0,yW_,⟨[],Dq,.nil,FR⟩,yX_,Fj (knd "put"),yY_,Fj (knd "drop"),yZ_,MP X own pos keys ji fp,y0_,Aa 2 ρ=some ow_,y1_,Mm (Fj ft) fu,y2_,b=false->q2 ρ M R,y3_,ForInStep PUnit,y4_,∀K:D->Mh->Prop,fo ρ M K=K x M,y5_,l.any λd=>Jb d x,y6_,λj hj p e=>?_,y7_,Y _ _ _ _ _ _,y8_,Ev G kM! G' H',y9_,AH (λhr=>by rw[(s.root hr).2]at e;cases e)]
def z'z:String:=z [za!,(λd=>match d with|.int k=>D.tup y8!|_=>.non)∘λi=>D.int cM!,zb!,Y.ok M0 G0 F0,zc!,[x!,N!,kM_,fE_,o4,hD_,o6,o7,o8,some hD!],zd!,wi.sg a ha q hq,ze!,l[j]?.map a_,zf!,[x!,N!,ze_,fE_,y4,some kL!,hz!,y,none,none],zg!,⟨G',ρ,M',R,sr.grow x m,r,k1,k2⟩,zh!,sr.grow x1 m1,zi!,Ad g (Ad k Ao),zj!,.Subscript o i p2,zk!,(.tup wR_,.str ⟨#[s.cps.toList.getD k.toNat 0]⟩,true),zl!,.write m3 x3.sub hM,zm!,.lst ((ep_).drop at_),zn!,.lst ((ep_).take at_++nw.map Cm),zo!,D.tup T_∉W.its,zp!,p1 (k:="put") (a:=a) (r:=[b]) rfl,zq!,.dct (hF_++[(.tup T_,.fn q)]) (Lq hF_ af! e2),zr!,AH (λz:i=.tup [.int h,.int n]=>hn (z▸hi)),zs!,tmT X.prog X.w X.K [] ft,zt!,∀cl C ak a8 fp,ME cd! [] db fe,zu!,⟨ow.or.cap NL.length ix mf,m1,am_⟩,zv!,⟨G,ρ,M,_,st,e',λd M1 v G1 H1 r1 x1 m1 q1=>?_⟩,zw!,⟨same.rows,same.its,ji!⟩,zx!,b1f X.prog X.w X.K X.mg X.base k x C ps g,zy!,[x!,ag_,none,none,none,none,none,none,none,none],zz!,s.heap.IsKeyIter it d i es.length ep,zC!,AC (AA (EK sf sh ?_)),zD!,∀K:Bool->Mh->Prop,K b M->ft ρ M K,zE!,rawInt ((i:Int)+1),zF!,Obj.mapFields (·.setIfInBounds 1 zE!),zG!,(by simpa using c'),zH!,Cg pJ_ wt E!,zI!,.dct (k3 cJ! fy_ en_) 3,zJ!,(λi v=>∃c u,x.cps[i]?=some c/\v=.str am! u),zK!,AV.mpr ⟨BQ,FR⟩,zL!,[zK_,.str ⟨#[q.1]⟩],zM!,(aE_).length<5000,zN!,λi h ⟨o,ho,_,hd⟩=>⟨o,ho,λv z=>by rw[hd]at z;cases z⟩,zO!,s.cps.toList.map λ_=>.bl true,zP!,.bl (if neg then !(b==c)else b==c),zQ!,Rb [(t.B2,a)] (one ⟨_,i9,fI B⟩) d_,zR!,.Call (.Attribute bn! "insert" ag) [ek,e] [] ac,zS!,.Call (.Attribute bn! "extend" ag) [e] [] ac,zT!,((hs os 5).length:Nat),zU!,(by show¬((0:Int)=5);decide),zV!,mirror xs i j ((j - i) / 2),zW!,(by show¬((5:Int)=15);decide),zX!,getElem?_pos _ k cr,zY!,fx ρ=some dc!,zZ!,cs.set k (.int (c+1)),z0!,ts.set k zZ_,z1!,Mt rfl (Mt rfl rfl b5i) rfl,z2!,mirror y_ _ _ _,z3!,λi j h5 h6=>?_,z4!,[U_,an_,hJ_,dv!,some (.lst [.int c0,.int c1,.int c2]),some (.lst [.int t0,.int t1,.int t2]),x6,x7,x8,x9],z5!,⟨rfl,lo,lo,rfl,g2,g4,g5⟩,z6!,bubble dv_ k (k - lo),z7!,os.filter λo=>decide hH_&&p o.h,z8!,hp.mem_iff.mp ho,z9!,g M x y=some d]
def z'zz:String:=z [za_,MS X own bh st q1,zb_,λK hK=>?_,zc_,(s,c,b&&!decide (s∈cm)),zd_,show Cm q=.tup yt_ from rfl,ze_,some (.tup [jO_,a0,b,tx]),zf_,decide ((l[k]).1=b),zg_,Em (w1 kK aJ!),zh_,(zh!).grow x2 m2,zi_,[x!,N!,fF!,bk_,y4,hD_,some I_,none,none,none],zj_,[x!,N!,fF!,bk_,y4,hD_,pC_,y,none,none],zk_,[aV!,aK_,.int bb_],zl_,λd M' v G' H' r x m q=>?_,zm_,MSs X own own body q1,zn_,.lst ((wrT b nw ao_).map Cm),zo_,decide (a=root),zp_,.dct (cn_++[(.tup T_,.lst [])]) (Lq cn_ af! e1),zq_,W.its++[D.tup T_],zr_,⟨l9,cb.mr,am_⟩,zs_,∀cl C ak a8 fp,iQ cd! cn zs!,zt_,Ea NL.length ix fi bnd ft fe,zu_,Hl X.prog X.w X.K X.mg X.base k C m ps g,zv_,⟨by show _<=_;simp only;omega,same.its,same.txt⟩,zw_,pL w x0 d nm,zx_,(d==sysModules)=false,zy_,[x!,ag_,some o.d,none,none,none,none,none,none,none],zC_,(show¬((i:Int)<0)from by omega),zD_,AC (AA (IQ hT ?_)),zE_,∀x,(kget wd x=none/\kget kb x=none)\/∃k:Str,kget wd x=some U!/\kget kb x=some fn_,zF_,Nq x.d=none/\¬kget wd x.nm=some b4!,zG_,(by rw[x8!];exact g4),zH_,Cg zH! wn E!,zI_,s0.heap.objs.size,zJ_,D X.A.in1 hh,zK_,.int (q.2:Nat),zL_,[aW_,x!,Q!,none],zM_,⟨by rw[AW];unfold big;omega,?_⟩,zN_,IntsAre items.toList ns,zO_,IntsAre jk.toList ms,zP_,Value.bool b==Value.bool c,zQ_,List.take_of_length_le d_,zR_,(by simpa using c),zS_,((hs os 0).length:Nat),zT_,((hs os 15).length:Nat),zU_,(by show¬((0:Int)=15);decide),zV_,(by show¬((5:Int)=0);decide),zW_,(by show¬((15:Int)=0);decide),zX_,(by show¬((15:Int)=5);decide),zY_,λi j h3 h4=>?_,zZ_,.int (t+1+m / 3%3),z0_,(show x - 1<a0.size by omega),z1_,(λi h4 h5=>by rw[show i=x+1 - 1 by omega]),z2_,h m st b h3 h4 u,z3_,mirror z_ _ _ _,z4_,(∀i,i<lo->rk r y_ i<=rk r y_ k),z5_,[U_,an_,hJ_,none,none,none,none,none,none,none],z6_,λa b e=>?_,z7_,os.filter λo=>decide hH_&&!p o.h,z8_,pendingOf h1,z9_,(none,a0.size)]
end
open Lean in
local macro_rules|`($s:ident)=>match s.getId with|.str .anonymous t=>let c:=t.back;if c=='!'||c=='_' then match (let b:=c=='!';if t.length<3 then if b then z'0 else z'00 else match t.front with|'a'=>if b then z'a else z'aa|'b'=>if b then z'b else z'bb|'c'=>if b then z'c else z'cc|'d'=>if b then z'd else z'dd|'e'=>if b then z'e else z'ee|'f'=>if b then z'f else z'ff|'g'=>if b then z'g else z'gg|'h'=>if b then z'h else z'hh|'i'=>if b then z'i else z'ii|'j'=>if b then z'j else z'jj|'k'=>if b then z'k else z'kk|'l'=>if b then z'l else z'll|'m'=>if b then z'm else z'mm|'n'=>if b then z'n else z'nn|'o'=>if b then z'o else z'oo|'p'=>if b then z'p else z'pp|'q'=>if b then z'q else z'qq|'r'=>if b then z'r else z'rr|'s'=>if b then z's else z'ss|'t'=>if b then z't else z'tt|'u'=>if b then z'u else z'uu|'v'=>if b then z'v else z'vv|'w'=>if b then z'w else z'ww|'x'=>if b then z'x else z'xx|'y'=>if b then z'y else z'yy|'z'=>if b then z'z else z'zz|_=>if b then z'0 else z'00).splitOn ("\r"++t++"\r") with|[_,f]=>do return (z'D (.fromRef (<-getRef)) 999 ((f.takeWhile (·≠'\r')).toString.splitOn "\n")).1|_=>Macro.throwUnsupported else Macro.throwUnsupported|_=>Macro.throwUnsupported
local macro_rules|`(tactic|push_cast)=>`(tactic|simp[Eu,Cw,sSeq,Lw,Fe,Fo,Fq,Js,Hv,Fx,Ye,Gd,fT,Ja,Aa,La,f2,Sj,Su,Wz,cL,Wh,Et,Hr,f1,Ad,Ao,Lo,fC,Ma,Ep,Bd,Hh,Iu,Eg,Fa,Dd,Aq,Gm,Iw,Cf,Hw,Ji,Cy,Cb,Ca,Ed,Bh,Fd,Yf,Ha,HT.sIx,List.getElem?_cons_zero,List.getElem?_cons_succ])|`(tactic|push_cast[$x,*])=>`(tactic|simp[Eu,Cw,sSeq,Lw,Fe,Fo,Fq,Js,Hv,Fx,Ye,Gd,fT,Ja,Aa,La,f2,Sj,Su,Wz,cL,Wh,Et,Hr,f1,Ad,Ao,Lo,fC,Ma,Ep,Bd,Hh,Iu,Eg,Fa,Dd,Aq,Gm,Iw,Cf,Hw,Ji,Cy,Cb,Ca,Ed,Bh,Fd,Yf,Ha,HT.sIx,List.getElem?_cons_zero,List.getElem?_cons_succ,$x,*])
open Lean in
local macro_rules|`(tactic|show$s:str)=>match z't't.splitOn ("\r"++s.getString++"\r") with|[_,f]=>do let q:=(z'D (.fromRef (<-getRef)) 999 ((f.takeWhile (·≠'\r')).toString.splitOn "\n")).1;let q:TSyntax ``Lean.Parser.Tactic.tacticSeq:=⟨q[1][1]⟩;`(tactic|($q))|_=>Macro.throwUnsupported
set_option hygiene true
open Lean in
local macro_rules|`(universe $x*)=>do let p:=`PySem.Challenge;let c:=p.str "cw_manyhands_k10_whole_played_holds";return mkNullNode (<-(p.str "pw_manyhands_k10_whole_played"::x.toList.map (λi=>c.str i.getId.toString)++(List.range 791).map λn=>c.str s!"o_{n+43}").toArray.mapM λn=>`(noncomputable def $(mkIdent (PySem.W.Fast.stemOf n).1):ident:=0))
universe env_41 heap_39 heap_46 heap_834 sts_109 sts_152 sts_217 sts_247 sts_298 sts_49 sts_500 sts_537 sts_595 sts_64 sts_677 sts_762 sts_79 sts_94 tree_108 tree_151 tree_214 tree_246 tree_297 tree_414 tree_47 tree_496 tree_536 tree_594 tree_63 tree_676 tree_761 tree_78 tree_833 tree_93 view_39
local macro_rules|`(tactic|omega)=>`(tactic|first|lia|omega +splitDisjunctions)
theorem z'Hd{G:Prop}(h:∀g:Prop,(G->g)->g):G:=h G λx=>x
local macro_rules|`(tactic|obtain $p:rcasesPatMed:=$e:term)=>do let s:=p.raw.reprint.getD "";if (s.splitOn ",").length>2+(s.splitOn "rfl").length then `(tactic|first|(refine z'Hd λg k=>?_;rcases $e:term with $p:rcasesPatMed<;>refine k ?_<;>clear g k)|rcases $e:term with $p:rcasesPatMed) else `(tactic|rcases $e:term with $p:rcasesPatMed)
noncomputable section
namespace L2
open PySem PySem.Spec PyProof.Rows
abbrev Key:=Sum Int Str
noncomputable def mU:Key->Value->Bool
 |.inl k,v=>Value.isInt k v
 |.inr x,v=>Value.isStrOf x v
noncomputable def d1w(w:World):Key->Int
 |.inl k=>hashInt k
 |.inr x=>hashStr w x
theorem Cu:∀{k:Key} {v:Value},mU k v=true->(∃i t,k=Sum.inl i/\v=Value.int i t)\/(∃x t,k=Sum.inr x/\v=Value.str x t)
 |.inl i,v,h=>by
  obtain⟨t,e⟩:=Value.isInt_shape (k:=i) (v:=v) h;exact .inl ⟨i,t,rfl,e⟩
 |.inr x,v,h=>by
  obtain⟨t,e⟩:=Value.isStrOf_shape (x:=x) (v:=v) h;exact .inr ⟨x,t,rfl,e⟩
theorem rB(i:Int)(t:Tok):mU (.inl i) dx_=true:=by simp[mU,Value.isInt]
theorem fB(x:Str)(t:Tok):mU (.inr x) lh_=true:=by simp[mU,Value.isStrOf]
theorem c7b(a b:Int):decide (li!=Sum.inl b)=fQ!:=by
 by_cases e:a=b
 .subst e;simp
 .have h:¬li!=Sum.inl b:=λq=>e (Sum.inl.inj q);rw[AU h];exact(EA.mpr e).symm
theorem c6y(a b:Str):decide (li_=Sum.inr b)=decide (a=b):=by
 by_cases e:a=b
 .subst e;simp
 .have h:¬li_=Sum.inr b:=λq=>e (Sum.inr.inj q);rw[AU h,AU e]
theorem c7a(a:Int)(b:Str):decide (li!=Sum.inr b)=false:=AU qe_
theorem c6z(a:Str)(b:Int):decide (li_=Sum.inl b)=false:=AU qe_
noncomputable def mixKind(prog:Program)(w:World):PySem.KeyKind prog w Key where
 is:=mU
 hash:=d1w w
 inj:=λv a b ha J=>by
  rcases Cu ha with⟨i,t,rfl,rfl⟩|⟨x,t,rfl,rfl⟩
  .rcases Cu J with⟨j,u,rfl,e⟩|⟨y,u,rfl,e⟩
   .injection e with e1 _;rw[e1]
   .exact lj!
  .rcases Cu J with⟨j,u,rfl,e⟩|⟨y,u,rfl,e⟩
   .exact lj!
   .injection e with e1 _;rw[e1]
 byValue:=λk v h=>by
  rcases Cu h with⟨i,t,rfl,rfl⟩|⟨x,t,rfl,rfl⟩<;>rfl
 pyHash:=λhv h=>by
  rcases Cu hv with⟨i,t,rfl,rfl⟩|⟨x,t,rfl,rfl⟩
  .exact wpAny_pyHash_int h
  .exact wpAny_pyHash_str h
 eqBool:=λhu hv h=>by
  rcases Cu hu with⟨i,t,rfl,rfl⟩|⟨x,t,rfl,rfl⟩
  .rcases Cu hv with⟨j,u,rfl,rfl⟩|⟨y,u,rfl,rfl⟩
   .rw[c7b]at h;exact wpAny_eqBool_int h
   .rw[c7a]at h;exact SeqAt.EqAt.int_str i t y u _ _ _ _ h
  .rcases Cu hv with⟨j,u,rfl,rfl⟩|⟨y,u,rfl,rfl⟩
   .rw[c6z]at h;exact SeqAt.EqAt.str_int x t j u _ _ _ _ h
   .rw[c6y]at h;exact wpAny_eqBool_str h
 «strs»:=λk x t v h=>by
  rcases Cu h with⟨i,u,rfl,e⟩|⟨y,u,rfl,e⟩
  .exact lj!
  .injection e with e1 _
   subst e1;cases v<;>rfl
theorem zC(prog:Program)(w:World)(i:Int)(t:Tok):(qf!).is (.inl i) dx_=true:=rB i t
theorem Wi(prog:Program)(w:World)(x:Str)(t:Tok):(qf!).is (.inr x) lh_=true:=fB x t
end L2
namespace L2
open PySem PySem.Spec PyProof.Rows
inductive V where
 |non|bl (b:Bool)|int (i:Int)|str (x:Str)|byt (b:Array UInt8)|flt (b:UInt64)|ref (a:Addr)|ty (n:String)
 deriving DecidableEq
noncomputable def Ds:V->Value->Prop
 |.non,u=>u=cP_
 |.bl b,u=>u=Value.bool b
 |.int i,u=>∃t,u=Value.int i t
 |.str x,u=>∃t,u=Value.str x t
 |.byt b,u=>∃t,u=Value.bytes b t
 |.flt b,u=>∃t,u=Value.float b t
 |.ref a,u=>u=Value.ref a
 |.ty n,u=>u=Value.type n
abbrev Ci:List V->List Value->Prop:=Paired Ds
theorem Ci.length{xs:l_}{us:h!}(r:fQ_):k_=ap_:=FC r
theorem Ci.get:∀{xs:l_} {us:h!} {i:Nat} {x:V},Ci xs us->xs[i]?=some x->∃u,us[i]?=some u/\Ds x u
 |_,_,_,_,.nil,e=>by simp at e
 |_,_,0,_,.cons r _,e=>by simp at e;subst e;exact lj_
 |_,_,i+1,x,.cons _ t,e=>by
  obtain⟨u,B,Y⟩:=Ci.get (i:=i) (x:=x) t cQ!;exact⟨u,hS_,Y⟩
theorem Ci.set{x:V}{u:Value}(r:Ds x u):∀{xs:l_} {us:h!} (i:Nat),Ci xs us->Ci (xs.set i x) (us.set i u)
 |_,_,_,.nil=>.nil
 |_,_,0,.cons _ t=>.cons r t
 |_,_,i+1,.cons q t=>.cons q (Ci.set r i t)
theorem Ci.append:∀{xs ys:l_} {us ws:h!},Ci xs us->Ci ys ws->Ci et! (us++ws)
 |_,_,_,_,.nil,s=>s
 |_,_,_,_,.cons r t,s=>.cons r (Ci.append t s)
theorem Ci.take:∀{xs:l_} {us:h!} (n:Nat),Ci xs us->Ci (xs.take n) (us.take n)
 |_,_,0,_=>.nil
 |_,_,_+1,.nil=>.nil
 |_,_,n+1,.cons r t=>.cons r (Ci.take n t)
theorem Ci.drop:∀{xs:l_} {us:h!} (n:Nat),Ci xs us->Ci (xs.drop n) (us.drop n)
 |_,_,0,r=>r
 |_,_,_+1,.nil=>.nil
 |_,_,n+1,.cons _ t=>Ci.drop n t
noncomputable def dI:Option V->Option Value->Prop
 |some v,some u=>Ds v u
 |none,none=>True
 |_,_=>False
noncomputable def KV{κ:Type}:List (κ×V)->List ll!->Prop:=Paired λ(p:κ×V) (q:κ×Value)=>p.1=q.1/\Ds p.2 q.2
noncomputable def kV:Key->V
 |.inl i=>.int i
 |.inr x=>.str x
inductive HO where
 |lst (xs:l_)
 |tup (xs:l_)
 |dK (kvs:List (Key×V))|dT (kvs:hT_)
 |set (S:hU!) (n:Nat)
 |ins (C dx:Addr) (fs:et_)
 |own (x:Addr)
 |xd (fs:et_)
 |met (f x:Addr)
 |rng (lo hi:Int)
 |frz (o:Obj) (u:HO)
 |tbl (ps:ab_)
 |ext (φ:Heap->Prop)
abbrev Hp:=Addr->Option HO
noncomputable def upd(H:Hp)(a:Addr)(o:HO):Hp:=λb=>if b=a then some o else H b
theorem Dq{H:Hp}{a:Addr}{o:HO}:upd H a o a=some o:=by unfold upd;rw[j!]
theorem Bt{H:Hp}{a b:Addr}{o:HO}(h:b≠a):upd H a o b=H b:=by unfold upd;rw[AH h]
theorem Ej{H:Hp}{a b:Addr}{o:HO}(h:H a=some o)(h':H b=none):a≠b:=by intro e;subst e;rw[h]at h';cases h'
section
variable(P:Program)(w:World)
noncomputable def Ke(H:Hp)(h:Heap)(a:Addr):HO->Prop
 |.lst xs=>k_<=sizeLine/\∃(its:h!) (n:Nat),Ci xs its/\h.get? a=some {cls:=.type "list",data:=.seq its.toArray n}
 |.tup xs=>k_<=sizeLine/\∃its:List Value,Ci xs its/\IsTup h a aO!
 |.dK kvs=>az!<=sizeLine/\dy_=false/\∃vs,KV kvs vs/\h.DictOf br_ a vs
 |.dT kvs=>az!<=sizeLine/\dy_=false/\∃xs:List ll_,
   Paired (λ(p:List Key×V) (q:List Key×Addr×Value)=>p.1=q.1/\H q.2.1=some qj_/\Ds p.2 q.2.2) kvs xs/\
   ∃o es ep,h.get? a=some o/\hU_/\o.data=.dict es ep/\es.toList=xs.map (entryOfKey fR!)/\(xs.map a_).Nodup
 |.set S n=>h.SetOf (intKind P w) a S n
 |.ins C dx fs=>H dx=some fR_/\bs!<=1000/\dx≠a/\h.get? a=some lm!/\
   ∃mA,h.Ns1 dx mA/\ql_/\PySem.Within mA m5!
 |.own _=>∃o,h.get? a=some o
 |.xd fs=>∃mA,h.Ns1 a mA/\∀f,dI (fs.lookup f) (mA f)
 |.rng lo hi=>∃t u v,h.get? a=some {cls:=.type "range",data:=.fields #[.int lo t,.int hi u,.int 1 v]}
 |.frz o u=>h.get? a=some o/\Ke H h a u
 |.tbl ps=>h.get? a=some {cls:=.none,data:=.fields ps}
 |.met f x=>h.get? a=some (W.methodObj ah_ fS!)
 |.ext φ=>φ h/\(∃o,h.get? a=some o)/\∀B Y:Heap,φ B->(∀o,B.get? a=some o->Y.get? a=some o)->φ Y
noncomputable def dJ(H:Hp)(h:Heap):Prop:=∀a o,H a=some o->Ke P w H h a o
end
section
variable{P:Program}{w:World}{H H':Hp}{h h':Heap}{a:Addr}{o:HO}
theorem Ke.lt(x:qY_):a<cQ_:=by
 cases o with
 |lst xs=>obtain⟨_,_,_,_,e⟩:=x;exact BF e
 |tup xs=>obtain⟨_,_,_,p⟩:=x;exact p.lt
 |dK kvs=>obtain⟨_,_,_,_,o,_,_,e,_⟩:=x;exact BF e
 |dT kvs=>obtain⟨_,_,_,_,o,_,_,e,_⟩:=x;exact BF e
 |set S n=>obtain⟨o,_,_,_,e,_⟩:=x;exact BF e
 |ins C dx fs=>obtain⟨_,_,_,e,_⟩:=x;exact BF e
 |own y=>obtain⟨_,e⟩:=x;exact BF e
 |xd fs=>obtain⟨_,⟨_,_,_,e,_⟩,_⟩:=x;exact BF e
 |rng lo hi=>obtain⟨_,_,_,e⟩:=x;exact BF e
 |frz ob u=>obtain⟨e,_⟩:=x;exact BF e
 |tbl ps=>exact BF qn!
 |met f y=>exact BF qn!
 |ext φ=>obtain⟨_,⟨_,e⟩,_⟩:=x;exact BF e
theorem Paired.mapP{α β:Type}{F G:cR!}:∀{l₁:N_} {l₂:dz!},Paired F l₁ l₂->(∀a b,F a b->G a b)->Paired G l₁ l₂
 |_,_,.nil,_=>.nil
 |_,_,.cons r t,f=>.cons (f _ _ r) (Paired.mapP t f)
theorem Ke.stay(x:qY_)(k:∀b u,(b=a\/H b=some fR_)->h.get? b=some u->h'.get? b=some u)
  (ho:∀b,H b=some fR_->H' b=some fR_)(ht:qo_):Ke P w H' h' a o:=by
 induction o with
 |lst xs=>obtain⟨z,its,n,r,e⟩:=x;exact⟨z,its,n,r,bF!⟩
 |tup xs=>obtain⟨z,its,r,ob,e,c⟩:=x;exact⟨z,its,r,ob,bF!,c⟩
 |dK kvs=>obtain⟨z,y,vs,r,ob,es,ep,e,c⟩:=x;exact⟨z,y,vs,r,ob,es,ep,bF!,c⟩
 |dT kvs=>
  obtain⟨z,y,xs,r,ob,es,ep,e,c⟩:=x;exact⟨z,y,xs,Paired.mapP r λp q z=>⟨z.1,ht _ _ z.2.1,z.2.2⟩,ob,es,ep,bF!,c⟩
 |set S n=>obtain⟨ob,es,ep,t,e,c⟩:=x;exact⟨ob,es,ep,t,bF!,c⟩
 |ins C dx fs=>
  obtain⟨d,z,ne,e,mA,⟨od,es,ep,e2,c⟩,r⟩:=x;exact⟨ho _ d,z,ne,bF!,mA,⟨od,es,ep,k _ _ (.inr d) e2,c⟩,r⟩
 |own y=>obtain⟨ob,e⟩:=x;exact⟨ob,bF!⟩
 |xd fs=>obtain⟨mA,⟨od,es,ep,e,c⟩,r⟩:=x;exact⟨mA,⟨od,es,ep,bF!,c⟩,r⟩
 |rng lo hi=>obtain⟨t,u,v,e⟩:=x;exact⟨t,u,v,bF!⟩
 |frz ob u ih=>obtain⟨e,q⟩:=x;exact⟨bF!,ih q⟩
 |tbl ps=>
  have e:h.get? a=some {cls:=.none,data:=.fields ps}:=x;show h'.get? a=some {cls:=.none,data:=.fields ps};exact k a _ aH! e
 |met f y=>
  have e:h.get? a=some qr!:=x;show h'.get? a=some qr!;exact k a _ aH! e
 |ext φ=>obtain⟨p,⟨o,e⟩,st⟩:=x;exact⟨st _ _ p λo q=>k _ _ aH! q,⟨o,bF!⟩,st⟩
theorem dJ.lt(x:bs_)(e:H a=some o):a<cQ_:=(x a o e).lt
theorem dJ.fresh(x:bs_)(e:cQ_<=a):H a=none:=by
 cases q:H a with
 |none=>rfl
 |some u=>exact absurd (BE (x.lt q) e) dz_
theorem dJ.kept(x:bs_)(k:hW!):dJ P w H h':=λa o e=>
 (x a o e).stay (λb u _ q=>k b u q) hW_ λ_ _ q=>q
theorem dJ.laid(x:bs_)(k:hW!)(hp:cQ_<=a)(new:Ke P w cR_ h' a o):dJ P w cR_ h':=λb u e=>by
 have hn:=x.fresh hp;by_cases J:b=a
 .show"!x";exact new
 .rw[Bt J]at e;exact(x b u e).stay (λc v _ q=>k c v q) (λc q=>by rw[fU!];exact q) λc xs q=>by rw[fU!];exact q
end
noncomputable def Rd(H:Hp)(a:Addr)(u:HO):Prop:=H a=some u\/∃o,H a=some fU_
theorem Rd.ok{P:Program}{w:World}{H:Hp}{h:Heap}{a:Addr}{u:HO}(r:Rd H a u)(x:bs_):Ke P w H h a u:=by
 rcases r with r|⟨o,r⟩
 .exact x a u r
 .obtain⟨_,q⟩:=x a _ r;exact q
noncomputable def Mut:Option HO->Prop
 |some (.lst _)=>True
 |some (.dK _)=>True
 |some (.dT _)=>True
 |some (.set _ _)=>True
 |some (.ins _ _ _)=>True
 |some (.ext _)=>True
 |_=>False
section
variable{P:Program}{w:World}{H:Hp}{h h':Heap}{x e:Addr}{o':HO}
theorem dJ.write(ok:bs_)(mu:lp_)(he:lq!)(k:qt_)(oj:lq_)
  (new:Ke P w (upd H x o') h' x o'):dJ P w (upd H x o') h':=λb u q=>by
 have JW:∀c y,H c=some (.own y)->c≠x:=λc y r z=>by subst z;rw[r]at mu;exact mu
 have OT:∀c xs,H c=some bc!->c≠x:=λc xs r z=>by subst z;rw[r]at mu;exact mu
 by_cases J:b=x
 .subst J;rw[Dq]at q;cases q;exact new
 .rw[Bt J]at q;by_cases lm:b=e
  .have q':H b=some hX!:=by
    rcases he with z|z
    .exact absurd (lm.trans z) J
    .rw[lm];exact z
   rw[q]at q';cases q';obtain⟨v,hv⟩:=oj;exact⟨v,by rw[lm];exact hv⟩
  .refine(ok b u q).stay (λc v hc r=>k c v ?_ r) (λc r=>by rw[Bt (JW c b r)];exact r) λc xs r=>by rw[Bt (OT c xs r)];exact r
   rcases hc with rfl|hc
   .exact lm
   .rintro rfl;rcases he with z|z
    .exact JW c b hc z
    .rw[hc]at z;cases z;exact J rfl
end
structure Un(fs ex:aq!)(H H':Hp)(h h':Heap):Prop where
 keep:∀b o,h.get? b=some o->H b=none->b∉fs->b∉ex->h'.get? b=some o
 slot:∀b o,h.get? b=some o->H b=none->b∈fs->b∉ex->∃sl,h'.get? b=some {o with slots:=sl}
 free:∀b o,h.get? b=some o->H b=none->b∉ex->H' b=none
 there:∀b o,h.get? b=some o->b∉ex->∃o',h'.get? b=some o'
 tups:∀b xs,H b=some bc!->H' b=some bc!
 frzs:∀b o u,H b=some fU_->H' b=some fU_
 tbls:∀b ps,H b=some (.tbl ps)->∃om,H' b=some qv!
section
variable{fs uv ex WH:List Addr}{H H1 H2:Hp}{h B Y h':Heap}{a x e:Addr}{o:HO}
theorem Un.any(u:Un fs ex H H1 h B){b:Addr}(q:h.get? b=some ob)(n:H b=none)(L:b∉ex):∃sl,B.get? b=some {ob with slots:=sl}:=by
 by_cases J:b∈fs
 .exact u.slot b ob q n J L
 .exact⟨ob.slots,u.keep b ob q n J L⟩
theorem Un.kept(k:hW!):Un fs ex H H h h':=
 ⟨λb ob q _ _ _=>k b ob q,λb ob q _ _ _=>⟨ob.slots,k b ob q⟩,λ_ _ _ n _=>n,λb ob q _=>⟨ob,k b ob q⟩,λ_ _ q=>q,λ_ _ _ q=>q,λ_ ps q=>⟨#[],by rw[q];simp⟩⟩
theorem Un.refl:Un fs ex H H h h:=Un.kept λ_ _ q=>q
theorem Un.laid(k:hW!)(hp:cQ_<=a)(hn:hY_):Un fs ex H cR_ h h' where
 keep:=λb u q _ _ _=>k b u q
 slot:=λb u q _ _ _=>⟨u.slots,k b u q⟩
 free:=λb u q n _=>by rw[Bt (BV (BE (BF q) hp))];exact n
 there:=λb u q _=>⟨u,k b u q⟩
 tups:=λb xs q=>by rw[fU!];exact q
 frzs:=λb u xs q=>by rw[fU!];exact q
 tbls:=λb ps q=>⟨#[],by rw[fU!,q];simp⟩
theorem Un.write(mu:lp_)(he:lq!)(k:qt_)(oj:lq_):Un fs ex H ls! h h':=by
 have L:∀b,H b=none->b≠x:=λb n z=>by subst z;rw[n]at mu;exact mu
 have J:∀b,H b=none->b≠e:=λb n z=>by
  subst z;rcases he with r|r
  .exact L b n r
  .rw[n]at r;cases r
 have hm:∀b u,H b=some u->¬Mut (some u)->b≠x:=λb u q nm z=>by subst z;rw[q]at mu;exact nm mu
 refine⟨λb u q n _ _=>k b u (J b n) q,λb u q n _ _=>⟨u.slots,k b u (J b n) q⟩,λb u q n _=>by rw[Bt (L b n)];exact n,λb u q _=>?_,
  λb xs q=>by rw[lt!];exact q,λb u xs q=>by rw[lt!];exact q,λb ps q=>⟨#[],by rw[lt!,q];simp⟩⟩
 by_cases lm:b=e
 .subst lm;exact oj
 .exact⟨u,k b u lm q⟩
end
noncomputable def trk(h:Heap)(H:Hp):List Addr:=(qA!).filter λa=>(H a).isSome
noncomputable def vM(h:Heap)(H:Hp):Heap:=W.hideAll h lt_
theorem b0s(h:Heap)(H:Hp):(hZ!).objs.size=cQ_:=W.hideAll_size _ _
theorem b6q{h:Heap}{H:Hp}{b:Addr}{o:Obj}(e:qA_)(n:H b=none):(hZ!).get? b=some o:=
 W.hideAll_get _ e λhm=>by
  have q:(H b).isSome=true:=(DD.mp hm).2;rw[n]at q;simp at q
theorem c1f{h:Heap}{H:Hp}{b:Addr}{o:Obj}(e:(hZ!).get? b=some o):h.get? b=some o/\H b=none:=by
 have e':h.get? b=some o:=W.of_hideAll lt_ e;refine⟨e',?_⟩;cases q:H b with
 |none=>rfl
 |some x=>
  have hm:b∈trk h H:=DD.mpr ⟨FS.mpr (BF e'),by simp[q]⟩;have z:(hZ!).get? b=none:=W.hideAll_none lt_ hm;rw[z]at e;cases e
noncomputable def c3e(g h:Heap)(av:Addr):List ew!:=(qA!).filterMap λa=>if a=av\/(g.get? a).isSome=true then none else(h.get? a).map λo=>(a,o)
noncomputable def rest(g h:Heap)(av d:Addr):List ew!:=(c3e g h av).filter λp=>decide (p.1≠d)
end L2
namespace L2
open PySem PySem.Spec PyProof.Rows
structure Mod(K:W.Frag)(mg:A!)(base:Heap):Prop where
 kin:K.In base
 glob:base.Ns mainGlobals mg
 blt:∃mb,base.Ns builtinsNs mb/\∀x:Str,x≠"__name__"->mb x=bootBuiltins x
 nolimit:base.NoLimit
structure Cx where
 prog:Program
 w:World
 K:W.Frag
 mg:Str->Option Value
 base:Heap
 A:Around
 N:List Str
 s₀:Shared
 H₀:Hp
 env:Env
 outer:List Env
 stack:List Env
 ex:List Addr
 fn:Str->Bool
 calm:Bool
 pn:List ew!
 xe:Value->Shared->Prop
noncomputable def frs(l:aq_):List Addr:=l.filterMap (·.frame)
abbrev Cx.fs(X:Cx):List Addr:=frs X.outer
noncomputable def Vis(sc:Scope)(x:Str):Prop:=sc.names.lookup x=some .local\/sc.names.lookup x=some .cell\/sc.names.lookup x=some .free
noncomputable def Loc(sc:Scope)(x:Str):Prop:=sc.names.lookup x=some .local\/sc.names.lookup x=some .cell
noncomputable def d6j(env:Env)(h:Heap)(m:A!)(x:Str)(u:Value):Prop:=
 (env.kindOf x=some .local/\m x=some u)\/((env.kindOf x=some .cell\/env.kindOf x=some .free)/\∃c,env.cells.lookup x=some c/\h.IsCell c (some u))
structure Cx.Ok(X:Cx):Prop where
 mod:Mod X.K X.mg X.base
 kind:lu_=.function
 glob:X.env.globals=mainGlobals
 blt:X.env.builtins=builtinsNs
 above:dA!<=X.env.locals
 inj:∀x y c,X.env.cells.lookup x=some c->X.env.cells.lookup y=some c->x=y
 has:∀x,qC!->∃c,X.env.cells.lookup x=some c
 cab:∀x c,X.fn x=true->X.env.cells.lookup x=some c->dA!<=c
 hd:X.calm=true->X.A.handled=none
 frames:X.A.frames=some X.stack
 stk:X.stack=X.outer\/(X.stack=X.env::X.outer/\X.env.frame=some X.env.locals)
 exf:∀b∈X.ex,b≠X.env.locals/\∀x c,X.env.cells.lookup x=some c->c≠b
 bs:∀b o,X.base.get? b=some o->X.s₀.heap.get? b=some o/\X.H₀ b=none
 bsz:X.base.objs.size<=dA!
 noex:∀b o,X.base.get? b=some o->b∉X.ex
 exfs:∀b∈X.ex,b∉X.fs
 funs:X.s₀.heap.FunFrames X.base X.outer
 frf:∀b∈X.fs,X.H₀ b=none
structure Inv(X:Cx)(O:n!)(Z:List (Option V))(H:Hp)(s:Shared):Prop where
 ok:X.Ok
 os:s.os=X.s₀.os
 bare:AllBare s.gens
 base:Un X.fs X.ex X.H₀ H X.s₀.heap s.heap
 loc:∃m,s.heap.Ns X.env.locals m/\∀(i:Nat) (x:Str) (v:V),X.N[i]?=some x->Z[i]?=some dB!->Vis X.env.scope x->∃u,Ds v u/\d6j X.env s.heap m x u
 cell:∀x c,X.env.cells.lookup x=some c->∃v,s.heap.IsCell c v
 free:H X.env.locals=none
 freeC:∀x c,X.env.cells.lookup x=some c->H c=none
 pin:∀p∈X.pn++O,s.heap.get? p.1=some p.2/\H p.1=none/\p.1≠X.env.locals/\p.1∉X.fs/\∀v,p.2.data≠.cell v
 hok:dJ X.prog X.w H s.heap
 len:fW!=X.N.length
section
variable{X:Cx}{O:List (Addr×Obj)}{Z:List (Option V)}{H H':Hp}{s:Shared}{h':Heap}
theorem Cx.Ok.nofr(ok:X.Ok){b:Addr}{o:Obj}(e:X.base.get? b=some o):b∉X.fs:=λJ=>by
 have:=(ok.funs.mem J).1;rw[e]at this;cases this
theorem Inv.bs(I:d!):∀b o,X.base.get? b=some o->s.heap.get? b=some o/\H b=none:=λb o e=>
 ⟨I.base.keep b o (h0!).1 (h0!).2 (I.ok.nofr e) qD_,I.base.free b o (h0!).1 (h0!).2 qD_⟩
theorem Inv.bk(I:d!):∀b o,X.base.get? b=some o->s.heap.get? b=some o:=λb o e=>(I.bs b o e).1
theorem Inv.mod(I:d!):Mod X.K X.mg X.base:=I.ok.mod
theorem Inv.kIn(I:d!):X.K.In s.heap:=I.ok.mod.kin.keeps I.bk
theorem Inv.lt(I:d!):X.env.locals<q!:=let⟨_,hn,_⟩:=I.loc;hn.lt
theorem Inv.sz(I:d!):dA!<=q!:=BN I.ok.above (FW I.lt)
theorem Inv.nofs(I:d!){a:Addr}(h:q!<=a):a∉X.fs:=λJ=>by
 obtain⟨_,o,ho,_⟩:=I.ok.funs.mem J;exact absurd (BE h1! (BN I.sz h)) dz_
theorem Inv.cne(I:d!):∀x c,X.env.cells.lookup x=some c->c≠X.env.locals:=λx c e z=>by
 obtain⟨v,o,ho,hd⟩:=I.cell x c e;obtain⟨m,⟨o',es,ep,c9,wu,_⟩,_⟩:=I.loc;rw[z,c9]at ho;cases ho;rw[wu]at hd;cases hd
theorem Inv.funs(I:d!):s.heap.FunFrames X.base X.outer:=by
 have all:∀(l:aq_),(∀b∈frs l,b∈X.fs)->X.s₀.heap.FunFrames X.base l->s.heap.FunFrames X.base l:=by
  intro l
  induction l with
  |nil=>intro _ _;trivial
  |cons env r ih=>
   intro hs hl;obtain⟨hk,⟨av,o,hf,hn,ho,hd⟩,hr⟩:=hl;have hL:av∈X.fs:=hs av (by unfold frs;rw[IM,hf];exact AM);obtain⟨sl,e⟩:=I.base.slot av o ho (I.ok.frf av hL) hL λz=>I.ok.exfs av z hL
   exact⟨hk,⟨av,_,hf,hn,e,hd⟩,ih (λb J=>hs b (by unfold frs;rw[IM,hf];exact AE _ J)) hr⟩
 exact all X.outer (λ_ J=>J) I.ok.funs
theorem Inv.stack(I:d!):s.heap.FunFrames X.base X.stack:=by
 rcases I.ok.stk with e|⟨e,hf⟩
 .rw[e];exact I.funs
 .rw[e];obtain⟨m,hn,_⟩:=I.loc;refine .cons (by rw[I.ok.kind];decide) hf hn ?_ I.funs;exact Heap.get?_none_of_le (BN I.ok.bsz I.ok.above)
theorem Inv.stkSub(I:d!):∀b∈frs X.stack,b∈X.env.locals::X.fs:=λb J=>by
 rcases I.ok.stk with e|⟨e,hf⟩
 .rw[e]at J;exact AE _ J
 .rw[e]at J;unfold frs at J;rw[IM,hf]at J;exact J
theorem Inv.stkFree(I:d!):∀b∈frs X.stack,H b=none:=λb J=>by
 rcases AD.mp (I.stkSub b J)with e|J
 .rw[e];exact I.free
 .obtain⟨_,o,ho,_⟩:=I.ok.funs.mem J;exact I.base.free b o ho (I.ok.frf b J) λz=>I.ok.exfs b z J
theorem Inv.step{g':qF_}{t':Nat}{d':Drawn}{ch:aq!}(I:d!)
  (iy:∀b∈ch,h1_/\b≠X.env.locals/\h2!/\∀p∈X.pn++O,p.1≠b)
  (keep:∀b o,b≠X.env.locals->b∉X.fs->b∉ch->s.heap.get? b=some o->H b=none->h'.get? b=some o)
  (slot:∀b o,b≠X.env.locals->b∈X.fs->b∉ch->s.heap.get? b=some o->H b=none->∃sl,h'.get? b=some {o with slots:=sl})(free:∀b o,b∉ch->s.heap.get? b=some o->H b=none->H' b=none)
  (there:∀b o,b∉ch->s.heap.get? b=some o->∃o',h'.get? b=some o')
  (tups:qo_)(frzs:∀b o u,H b=some fU_->H' b=some fU_)(tbls:∀b ps,H b=some (.tbl ps)->∃om,H' b=some qv!)
  (ns:∀m,s.heap.Ns X.env.locals m->h'.Ns X.env.locals m)(hok:lw_)(hg:AllBare g'):
  Inv X O Z H' {s with heap:=h',gens:=g',drawn:=d',toks:=t'}:=by
 have JX:∀b o,X.s₀.heap.get? b=some o->b≠X.env.locals:=λb o e=>BV qG!;have uw:∀b o,X.s₀.heap.get? b=some o->b∉X.ex->b∉ch:=λb o e L J=>by
  rcases(iy b J).1 with z|z
  .exact L z
  .exact absurd (BE cS! z) dz_
 have JY:∀x c,X.env.cells.lookup x=some c->∀v,s.heap.IsCell c v->h'.IsCell c v:=λx c e v ⟨o,ho,hd⟩=>by
  have qk:c∉ch:=λz=>(iy c z).2.2.1 x c e rfl;by_cases hc:c∈X.fs
  .obtain⟨sl,q⟩:=slot c o (I.cne x c e) hc qk ho lx!;exact⟨_,q,hd⟩
  .exact⟨o,keep c o (I.cne x c e) hc qk ho lx!,hd⟩
 refine⟨I.ok,I.os,hg,⟨h2_,h2_,λb o e n L=>?_,qG_,λb xs e=>tups b xs (I.base.tups b xs e),λb o xs e=>frzs b o xs (I.base.frzs b o xs e),λb ps e=>?_⟩,?_,ly!,?_,ly!,ew_,hok,I.len⟩
 .exact keep b o (JX b o e) J h3! ly_ lz!
 .show"!Z";obtain⟨OU,e2⟩:=slot b _ (JX b o e) J h3! e1 lz!;exact⟨OU,e2⟩
 .show"!F";exact free b o' h3! e1 lz!
 .show"!F";exact there b o' h3! e1
 .obtain⟨m1,e1⟩:=I.base.tbls b ps e;obtain⟨m2,e2⟩:=tbls b _ e1;exact⟨m1++m2,by rw[e2,Array.append_assoc]⟩
 .obtain⟨m,hn,hl⟩:=I.loc;refine⟨m,ns m hn,qI_⟩;obtain⟨u,r,l⟩:=hl i x v e1 e2 e3;refine⟨u,r,?_⟩;rcases l with l|⟨k,c,e,z⟩
  .exact .inl l
  .exact .inr ⟨k,c,e,JY x c e _ z⟩
 .obtain⟨v,z⟩:=I.cell x c e;exact⟨v,JY x c e v z⟩
 .obtain⟨m,⟨o,_,_,ho,_⟩,_⟩:=I.loc;exact free _ o (λz=>(iy _ z).2.1 rfl) ho I.free
 .obtain⟨v,o,ho,hd⟩:=I.cell x c e;exact free c o (λz=>(iy c z).2.2.1 x c e rfl) ho lx!
 .show"!{";have qk:p.1∉ch:=λz=>(iy p.1 z).2.2.2 p hp rfl;exact⟨keep p.1 p.2 ne nf qk e n,free p.1 p.2 qk e n,ne,nf,d⟩
theorem Inv.un{t':Nat}(I:d!)(u:Un X.fs [] H H' s.heap h')(hok:lw_):Inv X O Z H' {s with heap:=h',toks:=t'}:=by
 obtain⟨m,⟨o,es,ep,ho,r⟩,_⟩:=id I.loc;obtain⟨sl,hL⟩:=u.any ho I.free d_;exact I.step (g':=s.gens) (d':=s.drawn) (ch:=[]) qL_ (λb o _ J _ e n=>u.keep b o e n J d_) (λb o _ J _ e n=>u.slot b o e n J d_) (λb o _ e n=>u.free b o e n d_) (λb o _ e=>u.there b o e d_) u.tups u.frzs u.tbls (λm' hm=>by
  obtain⟨o',au,a9,c9,r'⟩:=hm;rw[ho]at c9;cases c9;exact qM!) hok I.bare
theorem Inv.call{g':qF_}{t':Nat}{d':Drawn}{ch:aq!}(I:d!)(u:Un (frs X.stack) ch H H' s.heap h')(hok:lw_)(hg:AllBare g')
  (iy:∀b∈ch,h1_/\b≠X.env.locals/\h2!/\∀p∈X.pn++O,p.1≠b):
  Inv X O Z H' {s with heap:=h',gens:=g',drawn:=d',toks:=t'}:=by
 obtain⟨m,⟨o,es,ep,ho,r⟩,_⟩:=id I.loc;obtain⟨sl,hL⟩:=u.any ho I.free λz=>(iy _ z).2.1 rfl
 exact I.step (ch:=ch) iy (λb o hL J hc e n=>u.keep b o e n (λz=>(AD.mp (I.stkSub b z)).elim hL J) hc) (λb o _ _ hc e n=>u.any e n hc) (λb o hc e n=>u.free b o e n hc) (λb o hc e=>u.there b o e hc) u.tups u.frzs u.tbls (λm' hm=>by
  obtain⟨o',au,a9,c9,r'⟩:=hm;rw[ho]at c9;cases c9;exact qM!) hok hg
theorem Inv.turned{t':Nat}(I:d!)(k:∀b o,b≠it->s.heap.get? b=some o->h'.get? b=some o)(hn:H it=none)(hL:it≠X.env.locals)
  (B:it∈X.ex\/dA!<=it)(Y:∀x c,X.env.cells.lookup x=some c->c≠it)(h3:∀p∈X.pn++O,p.1≠it):Inv X O Z H {s with heap:=h',toks:=t'}:=by
 have on:∀b u,H b=some u->b≠it:=λb u e z=>by rw[z,hn]at e;cases e
 refine I.step (g':=s.gens) (d':=s.drawn) (ch:=[it]) lA_ (λb o _ _ hc e _=>k b o lB! e) (λb o _ _ hc e _=>⟨o.slots,k b o lB! e⟩) h5!
  (λb o hc e=>⟨o,k b o lB! e⟩) h5_ h6! (λb ps e=>qO_) h6_ qP! I.bare
 .have e:b=it:=by simpa using J
  subst e;exact⟨B,hL,Y,h3⟩
 .obtain⟨o,es,ep,ho,r⟩:=hm;exact⟨o,es,ep,k _ o (AI hL) ho,r⟩
 .refine(I.hok b u e).stay (λc v hc q=>k c v ?_ q) hW_ λ_ _ q=>q;rcases hc with z|z
  .rw[z];exact on b u e
  .exact on c _ z
theorem Inv.tok(I:d!)(t:Nat):Inv X O Z H {s with toks:=t}:=I.un (h':=s.heap) (t':=t) Un.refl I.hok
theorem Inv.kept{t':Nat}(I:d!)(k:qQ_):Inv X O Z H {s with heap:=h',toks:=t'}:=I.un (Un.kept k) (I.hok.kept k)
theorem Inv.laid{a:Addr}{o:HO}{t':Nat}(I:d!)(k:qQ_)(hp:q!<=a)(new:Ke X.prog X.w cR_ h' a o):
  Inv X O Z cR_ {s with heap:=h',toks:=t'}:=I.un (Un.laid k hp (I.hok.fresh hp)) (I.hok.laid k hp new)
theorem Inv.write{x e:Addr}{o:HO}{t':Nat}(I:d!)(mu:lp_)(he:lq!)(k:∀b u,b≠e->s.heap.get? b=some u->h'.get? b=some u)(oj:lq_)
  (new:Ke X.prog X.w ls! h' x o):Inv X O Z ls! {s with heap:=h',toks:=t'}:=I.un (Un.write mu he k oj) (I.hok.write mu he k oj new)
theorem Inv.pins_of{JZ:n!}(I:d!)(h:∀p∈JZ,s.heap.get? p.1=some p.2/\H p.1=none/\p.1≠X.env.locals/\p.1∉X.fs/\∀v,p.2.data≠.cell v):Inv X JZ Z H s:=
 ⟨I.ok,I.os,I.bare,I.base,I.loc,I.cell,I.free,I.freeC,λp hp=>(AQ.mp hp).elim (λz=>I.pin p (BG _ z)) (h p),I.hok,I.len⟩
theorem yV{N:p!}(hN:N.Nodup){i j:Nat}{x:Str}(a:N[i]?=some x)(b:N[j]?=some x):i=j:=by obtain⟨B,e1⟩:=AZ.mp a;obtain⟨Y,e2⟩:=AZ.mp b;exact(List.getElem_inj hN).mp qU!
theorem pT{M:Model}{A:Around}{E:p_}{i:Nat}{x:Str}{v:V}{u:Value}{Q:cT!}(I:d!)(hN:bt_)(hi:ak_)(L:bu!)(r:bu_)
  (h:∀s',Inv X O ex_ H s'->(∃a,Heap.SameBut a s.heap s'.heap/\(a=X.env.locals\/X.env.cells.lookup x=some a))->Q () s')(hf:X.fn x=true\/X.env.scope.names.lookup x=some .local:=by first|exact .inl rfl|exact .inr rfl|assumption):wpAny M A qU_ Q E s:=by
 obtain⟨m,hn,hl⟩:=id I.loc;have OV:(lu_==.class||(lu_==.module&&X.env.locals != X.env.globals))=false:=by rw[I.ok.kind];rfl
 have J':i<fW!:=by rw[I.len];exact(AZ.mp hi).1
 have cne:=I.cne;have KA:∀{a:Addr} {h':Heap},(∃o,s.heap.get? a=some o/\H a=none)->Heap.SameBut a s.heap h'->dJ X.prog X.w H h':=λ{a h'} ha hs b ob e=>by
  obtain⟨_,_,g9⟩:=ha;refine(I.hok b ob e).stay (λc w' hc q=>(hs.2 c ?_).trans q) hW_ λ_ _ q=>q;rintro rfl;rcases hc with rfl|hc
  .rw[g9]at e;cases e
  .rw[g9]at hc;cases hc
 rcases L with hk|hk
 .refine wpAny_storeName_local hk hn (λh' ux hs=>?_) OV;obtain⟨oL,_,_,kh,_⟩:=id hn;refine h _ ⟨I.ok,I.os,I.bare,qW_,⟨_,ux,qX!⟩,λy c e=>?_,I.free,I.freeC,ew_,KA ⟨oL,kh,I.free⟩ hs,qX_⟩ ⟨_,hs,cV!⟩
  .exact(lH!).trans ly_
  .show"!Z";exact⟨sl,(lH!).trans e1⟩
  .show"!F";exact⟨o',(lH!).trans e1⟩
  .by_cases hj:j=i
   .show"#-";exact⟨u,r,.inl ⟨hk,I!⟩⟩
   .rw[BP (AI hj)]at e2;obtain⟨u',r',q⟩:=hl j y v' e1 e2 e3;refine q1!;rcases q with⟨k,e⟩|⟨k,c,e,z⟩
    .refine .inl ⟨k,?_⟩;have:y≠x:=λe=>hj (yV hN e1 (e▸hi));simp[this,e]
    .exact .inr ⟨k,c,e,q2_⟩
  .obtain⟨w',z⟩:=I.cell y c e;exact⟨w',q2_⟩
  .show"!{";exact⟨(hs.2 p.1 ne).trans e,n,ne,nf,d⟩
 .have wv:X.fn x=true:=by
   rcases hf with z|z
   .exact z
   .rw[z]at hk;cases hk
  obtain⟨c,hc⟩:=I.ok.has x (.inl hk);obtain⟨w',z⟩:=I.cell x c hc;refine wpAny_storeName_cell I.ok.kind hk hc z (λh' bp hs=>?_);obtain⟨oc,KB,OX⟩:=id z;refine h {s with heap:=h'} ⟨I.ok,I.os,I.bare,qW_,⟨m,hn.sameBut hs (AI (cne x c hc)),qX!⟩,λy c' e=>?_,I.free,I.freeC,ew_,KA ⟨oc,KB,I.freeC x c hc⟩ hs,qX_⟩ ⟨c,hs,.inr hc⟩
  .exact(lL!).trans ly_
  .show"!Z";exact⟨sl,(lL!).trans e1⟩
  .show"!F";exact⟨o',(lL!).trans e1⟩
  .by_cases hj:j=i
   .show"#-";exact⟨u,r,.inr ⟨.inl hk,c,hc,bp⟩⟩
   .rw[BP (AI hj)]at e2;obtain⟨u',r',q⟩:=hl j y v' e1 e2 e3;refine q1!;rcases q with q|⟨k,c',e,z'⟩
    .exact .inl q
    .refine .inr ⟨k,c',e,z'.sameBut hs ?_⟩;rintro rfl;exact hj (yV hN e1 (I.ok.inj _ _ _ e hc▸hi))
  .by_cases ju:c'=c
   .subst ju;exact⟨_,bp⟩
   .obtain⟨w2,z2⟩:=I.cell y c' e;exact⟨w2,z2.sameBut hs ju⟩
  .show"!{";refine⟨(hs.2 p.1 ?_).trans e,n,ne,nf,d⟩;intro q;rw[q,KB]at e;have q':oc=p.2:=BZ e;exact d w' (by rw[<-q'];exact OX)
theorem jT{M:Model}{A:Around}{E:p_}{i:Nat}{x:Str}{v:V}{u:Value}{Q:cT!}(I:d!)(hN:bt_)(hi:ak_)(L:bu!)(r:bu_)
  (h:∀s',Inv X O ex_ H s'->Q () s')(hf:X.fn x=true\/X.env.scope.names.lookup x=some .local:=by first|exact .inl rfl|exact .inr rfl|assumption):wpAny M A qU_ Q E s:=
 pT I hN hi L r (λs' I' _=>h s' I') hf
theorem Inv.call'{s':Shared}{ch:aq!}(I:d!)(ho:s'.os=s.os)(u:Un (frs X.stack) ch H H' s.heap s'.heap)(hok:dJ X.prog X.w H' s'.heap)(hg:AllBare s'.gens)
  (iy:∀b∈ch,h1_/\b≠X.env.locals/\h2!/\∀p∈X.pn++O,p.1≠b):Inv X O Z H' s':=by
 obtain⟨h',g',d',t',o'⟩:=s';have e:o'=s.os:=ho;subst e;exact I.call (g':=g') (t':=t') (d':=d') u hok hg iy
end
abbrev XK:=Value->Option Addr->Hp->Prop
abbrev St:=List (Option V)
abbrev VK:=V->Hp->Prop
abbrev TE:=St->Hp->VK->Prop
abbrev TT:=St->Hp->q7_->Prop
abbrev TA:=St->Hp->(List V->Hp->Prop)->Prop
structure a5c where
 nx:St->Hp->Prop
 rt:VK
 bk:St->Hp->Prop:=λ_ _=>False
 ct:St->Hp->Prop:=λ_ _=>False
abbrev TS:=a5c->St->Hp->Prop
inductive EP(X:Cx)(O:n!)(Z:St)(Q:VK)(u:Value)(s':Shared):Prop
 |mk (v:V) (H':Hp) (I:lM!) (r:bu_) (q:Q v H'):EP X O Z Q u s'
inductive TP(X:Cx)(O:n!)(Z:St)(Q:dC_)(b:Bool)(s':Shared):Prop
 |mk (H':Hp) (I:lM!) (q:Q b H'):TP X O Z Q b s'
inductive AP(X:Cx)(O:n!)(Z:St)(Q:cW!)(us:h!)(s':Shared):Prop
 |mk (vs:l_) (H':Hp) (I:lM!) (r:ey_) (q:Q vs H'):AP X O Z Q us s'
noncomputable def SP(X:Cx)(O:n!)(D:a5c)(f:Flow)(s':Shared):Prop:=
 match f with
 |.next=>∃hx H',Inv X O hx H' s'/\D.nx hx H'
 |.brk=>∃hx H',Inv X O hx H' s'/\D.bk hx H'
 |.cont=>∃hx H',Inv X O hx H' s'/\D.ct hx H'
 |.ret u=>∃v hx H',Inv X O hx H' s'/\Ds v u/\D.rt v H'
noncomputable def PE(X:Cx)(e:Expr)(t:TE):Prop:=
 ∀(O:n!) (s:Shared) (Z:St) (H:Hp) (Q:VK),Inv X O Z H s->t Z H Q->wpAny e_ X.A ez! aH_ X.xe s
noncomputable def PT(X:Cx)(e:Expr)(t:TT):Prop:=
 ∀(O:n!) (s:Shared) (Z:St) (H:Hp) (Q:dC_),Inv X O Z H s->t Z H Q->wpAny e_ X.A (isTrue e X.env ez!) jk_ X.xe s
noncomputable def PW(X:Cx)(e:Expr)(t:TT):Prop:=
 ∀(dm:Sem Value) (O:n!) (s:Shared) (Z:St) (H:Hp) (Q:dC_),Inv X O Z H s->t Z H Q->wpAny e_ X.A (isTrue e X.env dm) jk_ X.xe s
theorem PW.pt{X:Cx}{e:Expr}{t:TT}(h:PW X e t):PT X e t:=h _
noncomputable def PA(X:Cx)(es:bH_)(t:TA):Prop:=
 ∀(pos:Pos) (O:n!) (s:Shared) (Z:St) (H:Hp) (Q:cW!),Inv X O Z H s->t Z H Q->wpAny e_ X.A (spliced q9!) (AP X O Z Q) X.xe s
noncomputable def PS(X:Cx)(st:Stmt)(t:TS):Prop:=
 ∀(O:n!) (s:Shared) (Z:St) (H:Hp) (D:a5c),Inv X O Z H s->t D Z H->wpAny e_ X.A (exec st X.env) (SP X O D) X.xe s
noncomputable def PSs(X:Cx)(st:b0_)(t:TS):Prop:=
 ∀(O:n!) (s:Shared) (Z:St) (H:Hp) (D:a5c),Inv X O Z H s->t D Z H->wpAny e_ X.A (execs st X.env) (SP X O D) X.xe s
theorem Gq{α:Type}{t:Sem α}{Q Q':q8_}{M:Model}{A:Around}{E:p_}{s:Shared}(h:wpAny M A t Q E s)(hQ:∀a s,Q a s->Q' a s):wpAny M A t Q' E s:=CZ h hQ λ_ _ x=>x
end L2
namespace L2
open PySem PySem.Spec PyProof.Rows
section
variable{X:Cx}
theorem bin{a b:Expr}{ta tb:TE}(ha:a0!)(J:cr_){O:n!}{s:Shared}{Z:St}{H:Hp}{R:uP_}(I:d!)(h:q9_)
  {α:Type}{Q:q8_}{f:Value->Value->Sem α}
  (hf:ra!):
  wpAny e_ X.A lO! rb! X.xe s:=by
 show"!:"
noncomputable def d4k(i:Nat):TE:=λZ H Q=>∃v,Z[i]?=some dB!/\Q v H
noncomputable def tC(v:V):TE:=λ_ H Q=>Q v H
theorem Zw{i:Nat}{x:Str}{pos:Pos}(hN:ak_)(hv:cX_)(hd:G!:=by decide)(bv:cY!:=by decide):PE X cY_ (d4k i):=by
 intro O s Z H Q I h;obtain⟨v,e,h⟩:=h;obtain⟨m,hn,hl⟩:=I.loc;obtain⟨u,r,l⟩:=hl i x v hN e hv;have fin:EP X O Z Q u s:=lO_;rcases l with⟨hk,hm⟩|⟨hk,c,hc,b9⟩
 .exact wpAny_Name (wpAny_loadName_local I.ok.kind hk hn hm fin) hd
 .rcases hk with hk|hk
  .exact wpAny_Name (wpAny_loadName_cell I.ok.kind hk hc b9 fin) hd
  .exact wpAny_Name (wpAny_loadName_free I.ok.kind hk hc b9 fin bv) hd
theorem b4p {i j pos}:PE X rc_ (tC bv_):=λ_ _ _ H _ I h=>wpAny_Constant_int ⟨bI!,H,a0_,K_,h⟩
theorem d1c {b j pos}:PE X (.Constant lP! j pos) (tC bI_):=λ_ _ _ H _ I h=>Constant_bool ⟨.bl b,H,I,rfl,h⟩
theorem c6b {j pos}:PE X re! (tC .non):=λ_ _ _ H _ I h=>Constant_none ⟨.non,H,I,rfl,h⟩
theorem a3b {x j pos}:PE X (.Constant dE_ j pos) (tC dE_):=λ_ _ _ H _ I h=>Calls.Constant_str ⟨.str x,H,a0_,K_,h⟩
noncomputable def Gl(X:Cx)(x:Str):Prop:=X.env.kindOf x=some .globalImplicit
theorem Tr{E:p_}{O:n!}{s:Shared}{Z:St}{H:Hp}{x:Str}{u:Value}{pos:Pos}{Q:p_}(I:d!)(hg:R_)(hm:X.mg x=some u)(h:Q u s)
  (hd:G!:=by decide):wpAny e_ X.A re_ Q E s:=
 Calls.Name_function_global I.ok.kind hg (Calls.loadGlobal_global rf! hm h) hd
theorem Wm{E:p_}{O:n!}{s:Shared}{Z:St}{H:Hp}{x:Str}{u:Value}{pos:Pos}{Q:p_}(I:d!)(hg:R_)(hm:cs!)(hv:rf_)(h:Q u s)
  (hn:cs_:=by decide)(hd:G!:=by decide):wpAny e_ X.A re_ Q E s:=by
 obtain⟨mb,B,Y⟩:=I.mod.blt;exact Calls.Name_function_global I.ok.kind hg (Calls.loadGlobal_builtin rf! hm (by rw[I.ok.blt];exact B.keeps I.bk) ((Y x hn).trans hv) h) hd
theorem c0t{x:Str}{v:V}{u:Value}{pos:Pos}(hg:R_)(hm:X.mg x=some u)(r:bu_)(hd:G!:=by decide):PE X cY_ (tC v):=
 λ_ _ _ H _ I h=>Tr I hg hm lO_ hd
theorem c0u{x:Str}{v:V}{u:Value}{pos:Pos}(hg:R_)(hm:cs!)(hv:rf_)(r:bu_)(hn:cs_:=by decide)(hd:G!:=by decide):PE X cY_ (tC v):=
 λ_ _ _ H _ I h=>Wm I hg hm hv lO_ hn hd
variable{a b:Expr}{ta tb:TE}{pos:Pos}
noncomputable def PC(X:Cx)(op:CmpOp)(a b:Expr)(t:TE):Prop:=
 ∀(O:n!) (s:Shared) (Z:St) (H:Hp) (Q:VK),Inv X O Z H s->t Z H Q->
  wpAny e_ X.A lO! (λv ai=>wpAny e_ X.A uR_ (λu ak=>wpAny e_ X.A (compareOp op v u) aH_ X.xe ak) X.xe ai) X.xe s
theorem b5d(b:Expr){op:CmpOp}(h:op≠.In)(Y:op≠.NotIn):behindInMarks op b=false:=by
 have e1:rg!=false:=by cases op<;>first|rfl|exact absurd rfl h
 have e2:rg_=false:=by cases op<;>first|rfl|exact absurd rfl Y
 cases b<;>simp[behindInMarks,e1,e2]
noncomputable def tB(t:TE):TT:=λZ H Q=>t Z H λx H1=>∃c,x=.bl c/\Q c H1
theorem d5f{op:CmpOp}{t:TE}(h:PC X op a b t)(B:dF!:=by first|exact b5d _ c! c!|rfl):PT X dG! (tB t):=by intro O s Z H Q I hw;refine IP (Gq lP_ λv s1 B=>Gq B λu s2 Y=>Gq Y λc s3 ⟨x,H1,I1,r1,q1⟩=>?_) B;obtain⟨d,rfl,q⟩:=q1;cases r1;exact CA ⟨H1,I1,q⟩
theorem b3t{e:Expr}{t:TE}(h:ib_)(he:ic!:=by intro _;rfl):PT X e (tB t):=by intro O s Z H Q I hw;refine isTrue_plain (Gq lP_ λv s1 ⟨x,H1,I1,r1,q1⟩=>?_) (he _);obtain⟨d,rfl,q⟩:=q1;cases r1;exact CA ⟨H1,I1,q⟩
variable{tA uy:TT}{rest:List Expr}
noncomputable def d4w(t u:TT):TT:=λZ H Q=>t Z H λc H1=>if c=true then u Z H1 Q else Q false H1
noncomputable def tOr(t u:TT):TT:=λZ H Q=>t Z H λc H1=>if c=true then Q true H1 else u Z H1 Q
noncomputable def d4p(t:TT):TT:=λZ H Q=>t Z H λc H1=>Q (!c) H1
theorem a6g(ha:f8!):PW X lQ_ tA:=by
 intro wh O s Z H Q I h;refine isTrue_and ri!;cases c with
 |true=>exact isTrue_and_nil e
 |false=>exact e
theorem b3m(ha:f8!):PW X lR! tA:=by
 intro wh O s Z H Q I h;refine isTrue_or ri!;cases c with
 |false=>exact isTrue_or_nil e
 |true=>exact e
theorem b3n(ha:f8!)(J:PW X eA! uy):PW X eA_ (d4w tA uy):=by
 intro wh O s Z H Q I h;refine isTrue_and ri_;cases c with
 |true=>exact J wh O s1 Z H1 Q I1 q1
 |false=>exact rj!
theorem c3w(ha:f8!)(J:PW X eB! uy):PW X eB_ (tOr tA uy):=by
 intro wh O s Z H Q I h;refine isTrue_or ri_;cases c with
 |true=>exact rj!
 |false=>exact J wh O s1 Z H1 Q I1 q1
theorem b3v(ha:f8!):PT X eC! (d4p tA):=by intro O s Z H Q I h;exact isTrue_not (Gq (ha O s Z H (λc H1=>Q (!c) H1) I h) λ_ _ ⟨H2,I2,q⟩=>⟨H2,I2,q⟩)
noncomputable def d0b(ta tb:TE):TE:=λZ H Q=>ta Z H λx H1=>∃c,x=.bl c/\if c=true then tb Z H1 Q else Q Y_ H1
noncomputable def d4o(ta tb:TE):TE:=λZ H Q=>ta Z H λx H1=>∃c,x=.bl c/\if c=true then Q C_ H1 else tb Z H1 Q
noncomputable def c9w(ta:TE):TE:=λZ H Q=>ta Z H λx H1=>∃c,x=.bl c/\Q (.bl (!c)) H1
theorem b4k {op}{t:TE}(h:PE X a t):PE X lR_ t:=λO s Z H Q I hw=>BoolOp_one rk!
theorem b4r(ha:a0!)(J:PE X eA! tb):PE X eA_ (d0b ta tb):=by
 intro O s Z H Q I h;refine BoolOp_and lS!;obtain⟨c,rfl,q1⟩:=q1;cases r1;refine CA ?_;cases c with
 |true=>exact J O s1 Z H1 Q I1 q1
 |false=>exact⟨ie!,H1,I1,rfl,q1⟩
theorem c3z(ha:a0!)(J:PE X eB! tb):PE X eB_ (d4o ta tb):=by
 intro O s Z H Q I h;refine BoolOp_or lS!;obtain⟨c,rfl,q1⟩:=q1;cases r1;refine CA ?_;cases c with
 |false=>exact J O s1 Z H1 Q I1 q1
 |true=>exact⟨f9!,H1,I1,rfl,q1⟩
theorem b4l(ha:a0!):PE X eC! (c9w ta):=by intro O s Z H Q I h;refine UnaryOp_ lS!;obtain⟨c,rfl,q1⟩:=q1;cases r1;exact not_of (CA ⟨.bl (!c),H1,I1,rfl,q1⟩)
noncomputable def tIf(t:TT)(ta tb:TE):TE:=λZ H Q=>t Z H λc H1=>if c=true then ta Z H1 Q else tb Z H1 Q
theorem yM{c:Expr}(hc:PT X c tA)(ha:a0!)(J:cr_):PE X lS_ (tIf tA ta tb):=by
 intro O s Z H Q I h;refine wpAny_IfExp rl!;cases d with
 |true=>exact ha O s1 Z H1 Q I1 q1
 |false=>exact J O s1 Z H1 Q I1 q1
end
end L2
namespace L2
open PySem PySem.Spec PyProof.Rows
noncomputable def Kw(K:W.Frag)(H:Hp)(a:Addr)(xs:l_):Prop:=
 Rd H a L!\/
  ∃(o:Obj) (its:ab_) (n:Nat),K.lookup a=some o/\o.cls=.type "list"/\o.dict=none/\o.data=.seq its n/\its.size<=sizeLine/\Ci xs ie_
noncomputable def Lp(K:W.Frag)(H:Hp)(a:Addr)(xs:l_):Prop:=
 Rd H a bc!\/
  ∃(o:Obj) (its:ab_) (n:Nat),K.lookup a=some o/\o.cls=.type "tuple"/\o.data=.seq its n/\its.size<=sizeLine/\Ci xs ie_
noncomputable def d6e:Value->Option V
 |.none=>some .non
 |.bool b=>some bI_
 |.int i _=>some bv_
 |.str x _=>some dE_
 |.bytes b _=>some (.byt b)
 |.float b _=>some (.flt b)
 |.ref a=>some ac!
 |.type n=>some (.ty n)
 |_=>none
theorem Ds.abs{x:V}{u:Value}(r:Ds x u):d6e u=some x:=by
 cases x with
 |non=>cases r;rfl
 |bl _=>cases r;rfl
 |int _=>obtain⟨t,rfl⟩:=r;rfl
 |str _=>obtain⟨t,rfl⟩:=r;rfl
 |byt _=>obtain⟨t,rfl⟩:=r;rfl
 |flt _=>obtain⟨t,rfl⟩:=r;rfl
 |ref _=>cases r;rfl
 |ty _=>cases r;rfl
theorem Ds.inj{x y:V}{u:Value}(r:Ds x u)(q:Ds y u):x=y:=BZ (r.abs.symm.trans q.abs)
theorem Ci.inj:∀{xs ys:l_} {us:h!},Ci xs us->Ci ys us->xs=ys
 |_,_,_,.nil,.nil=>rfl
 |_,_,_,.cons r t,.cons r' t'=>by rw[r.inj r',Ci.inj t t']
section
variable{X:Cx}{O:List (Addr×Obj)}{Z:St}{H:Hp}{s:Shared}{a:Addr}{xs ys:List V}
theorem Kw.of{K:W.Frag}(h:H a=some L!):Kw K H a xs:=.inl if!
theorem Lp.of{K:W.Frag}(h:H a=some bc!):Lp K H a xs:=.inl if!
theorem Inv.list(I:d!)(h:Kw X.K H a xs):∃its:List Value,Ci xs its/\PlainL s.heap a aO!/\k_<=sizeLine:=by
 rcases h with h|⟨o,its,n,hk,hc,hd,hs,hz,r⟩
 .obtain⟨z,its,n,r,e⟩:=h.ok I.hok;exact⟨its,r,⟨_,n,e,rfl,rfl,rfl⟩,z⟩
 .refine⟨ie_,r,⟨o,n,I.kIn a o hk,hc,hd,rm!⟩,?_⟩;have e:=aC!;simp only[CH]at e;omega
theorem Inv.tuple(I:d!)(h:Lp X.K H a xs):∃its:List Value,Ci xs its/\IsTup s.heap a aO!/\k_<=sizeLine:=by
 rcases h with h|⟨o,its,n,hk,hc,hs,hz,r⟩
 .obtain⟨z,its,r,p⟩:=h.ok I.hok;exact⟨its,r,p,z⟩
 .refine⟨ie_,r,⟨o,I.kIn a o hk,hc,n,rm!⟩,?_⟩;have e:=aC!;simp only[CH]at e;omega
theorem Inv.list_inj(I:d!)(h:Kw X.K H a xs)(h':Kw X.K H a ys):xs=ys:=by
 obtain⟨its,r,⟨o,n,e,_,_,d⟩,_⟩:=I.list h;obtain⟨its',r',⟨o',n',e',_,_,d'⟩,_⟩:=I.list h';rw[e]at e';cases e';rw[d]at d';injection d' with d1 _
 have:its=its':=by simpa using congrArg Array.toList d1
 subst this;exact r.inj r'
theorem Inv.tuple_inj(I:d!)(h:Lp X.K H a xs)(h':Lp X.K H a ys):xs=ys:=by
 obtain⟨its,r,⟨o,e,_,n,d⟩,_⟩:=I.tuple h;obtain⟨its',r',⟨o',e',_,n',d'⟩,_⟩:=I.tuple h';rw[e]at e';cases e';rw[d]at d';injection d' with d1 _
 have:its=its':=by simpa using congrArg Array.toList d1
 subst this;exact r.inj r'
end
abbrev Cx.wish(X:Cx)(E:p_):Cx:={X with xe:=E}
abbrev Cx.nox(X:Cx):Cx:=X.wish λ_ _=>False
theorem Cx.Ok.wish{X:Cx}(ok:X.Ok)(E:p_):(ga!).Ok:=
 rn!
theorem Cx.Ok.unwish{X:Cx}{E:p_}(ok:(ga!).Ok):X.Ok:=
 rn!
section
variable{X:Cx}{O:List (Addr×Obj)}{Z:St}{H:Hp}{s:Shared}{E:Value->Shared->Prop}
theorem Inv.wish(I:d!)(E:p_):Inv ga! O Z H s:=⟨I.ok.wish E,I.os,I.bare,I.base,I.loc,I.cell,I.free,I.freeC,I.pin,I.hok,I.len⟩
theorem Inv.unwish(I:Inv ga! O Z H s):Inv X O Z H s:=⟨I.ok.unwish,I.os,I.bare,I.base,I.loc,I.cell,I.free,I.freeC,I.pin,I.hok,I.len⟩
theorem SP.unwish{D:a5c}{f:Flow}{s':Shared}(h:SP ga! O D f s'):SP X O D f s':=by
 cases f with
 |next=>obtain⟨hx,H',I,q⟩:=h;exact lV!
 |brk=>obtain⟨hx,H',I,q⟩:=h;exact lV!
 |cont=>obtain⟨hx,H',I,q⟩:=h;exact lV!
 |ret u=>obtain⟨v,hx,H',I,r,q⟩:=h;exact⟨v,hx,H',I.unwish,r,q⟩
theorem PSs.nox{st:b0_}{t:TS}(h:PSs X.nox st t):PSs X st t:=λO s Z H D I hw=>
 CZ (h O s Z H D (I.wish _) hw) (λ_ _ q=>q.unwish) λ_ _ z=>False.elim z
end
section
variable{X:Cx}{st:Stmt}{rest:List Stmt}{t u:TS}{e:Expr}{te:TE}{pos:Pos}
noncomputable def c9x:TS:=λD Z H=>D.nx Z H
noncomputable def d4m(t u:TS):TS:=λD Z H=>t {D with nx:=u D} Z H
theorem a6k:PSs X [] c9x:=λ_ _ Z H _ I h=>IR ⟨Z,H,I,h⟩
theorem yH(B:ig!)(Y:PSs X rest u):PSs X lV_ (d4m t u):=by
 intro O s Z H D I h;refine wpAny_execs_cons (Gq (B O s Z H {D with nx:=u D} I h) λf s1 q=>?_);cases f with
 |next=>
  obtain⟨hx,H',I',q⟩:=q;exact Y O s1 hx H' D I' q
 |ret v=>exact q
 |brk=>exact q
 |cont=>exact q
theorem a6j(B:ig!):PSs X [st] t:=by
 intro O s Z H D I h;refine wpAny_execs_cons (Gq (B O s Z H D I h) λf s1 q=>?_);cases f with
 |next=>exact IR q
 |ret v=>exact q
 |brk=>exact q
 |cont=>exact q
theorem Inv.quiet{O:n!}{Z:St}{H:Hp}{s:Shared}(I:d!):interactive X.env=false:=by simp[interactive,I.ok.kind]
noncomputable def c9y(te:TE):TS:=λD Z H=>te Z H λ_ H1=>D.nx Z H1
theorem iX(he:ct!)(hs:rp_:=by rfl):PS X (.Expr e pos) (c9y te):=by intro O s Z H D I h;exact wpAny_Expr_any (Gq c0_ λv s1 ⟨x,H1,I1,r1,q1⟩=>⟨Z,H1,I1,q1⟩) I.quiet hs
noncomputable def d4n(te:TE):TS:=λD Z H=>te Z H D.rt
theorem b3y(he:ct!):PS X lW! (d4n te):=by intro O s Z H D I h;exact wpAny_Return_some (Gq c0_ λv s1 ⟨x,H1,I1,r1,q1⟩=>⟨x,Z,H1,I1,r1,q1⟩)
noncomputable def c9u:TS:=λD _ H=>D.rt .non H
theorem c0l:PS X rq! c9u:=λ_ _ Z H _ I h=>wpAny_Return_none ⟨.non,Z,H,I,rfl,h⟩
noncomputable def d4r(c:TT)(t u:TS):TS:=λD Z H=>c Z H λb H1=>if b=true then t D Z H1 else u D Z H1
theorem c3y{c:Expr}{a b:b0_}{tc:TT}(hc:PT X c tc)(ha:PSs X a t)(J:PSs X b u):PS X (.If c a b pos) (d4r tc t u):=by
 intro O s Z H D I h;refine wpAny_If rl!;cases d with
 |true=>exact ha O s1 Z H1 D I1 q1
 |false=>exact J O s1 Z H1 D I1 q1
end
abbrev TG:=V->St->Hp->rq_->Prop
abbrev TGs:=List V->St->Hp->rq_->Prop
noncomputable def PG(X:Cx)(ql:Expr)(t:TG):Prop:=
 ∀(O:n!) (s:Shared) (Z:St) (H:Hp) (v:V) (u:Value) (Q:ih_),Inv X O Z H s->Ds v u->t v Z H Q->
  wpAny e_ X.A (assign ql X.env u) rr! X.xe s
noncomputable def PGs(X:Cx)(ts:bH_)(t:TGs):Prop:=
 ∀(O:n!) (s:Shared) (Z:St) (H:Hp) (vs:l_) (us:h!) (Q:ih_),Inv X O Z H s->Ci vs us->t vs Z H Q->
  wpAny e_ X.A (assignInOrder ((assignEach ts X.env).map B_) us) rr! X.xe s
abbrev c3f:=V->V->V->Hp->lW_->Prop
noncomputable def b1e(X:Cx)(t:c3f):Prop:=
 ∀(O:n!) (s:Shared) (Z:St) (H:Hp) (o i v:V) (ov iv u:Value) (Q:Hp->Prop),Inv X O Z H s->Ds o ov->Ds i iv->Ds v u->t o i v H Q->
  wpAny e_ X.A (setItem ov iv u) (λ_ s'=>∃H',Inv X O Z H' s'/\Q H') X.xe s
abbrev TIp:=V->V->Hp->VK->Prop
noncomputable def PIp(X:Cx)(op:Operator)(t:TIp):Prop:=
 ∀(O:n!) (s:Shared) (Z:St) (H:Hp) (x y:V) (v u:Value) (Q:VK),Inv X O Z H s->Ds x v->Ds y u->t x y H Q->
  wpAny e_ X.A (inplaceOp op v u) aH_ X.xe s
section
variable{X:Cx}{pos:Pos}
noncomputable def cQ(i:Nat):TG:=λv Z H Q=>Q ex_ H
theorem Ce{i:Nat}{x:Str}(hN:bt_)(hi:ak_)(L:bu!)(hf:X.fn x=true\/X.env.scope.names.lookup x=some .local:=by first|exact .inl rfl|exact .inr rfl|assumption):PG X cY_ eD_:=by intro O s Z H v u Q I r h;exact wpAny_assign_Name (jT I hN hi L r (λs' I'=>⟨_,H,I',h⟩) hf)
noncomputable def c7l:TGs:=λvs Z H Q=>vs=[]/\Q Z H
noncomputable def a0b(t:TG)(u:TGs):TGs:=λvs Z H Q=>∃v r,vs=v::r/\t v Z H λhx H'=>u r hx H' Q
theorem a6p:PGs X [] c7l:=by intro O s Z H vs us Q I r h;obtain⟨e,h⟩:=h;subst e;cases r;exact assignInOrder_nil ⟨Z,H,I,h⟩
theorem bM{e:Expr}{es:bH_}{t:TG}{u:TGs}(B:PG X e t)(Y:PGs X es u)
  (hs:(assignEach aI_ X.env).map B_=assign e X.env::(lX!).map B_:=by rfl):PGs X aI_ (a0b t u):=by
 intro O s Z H vs us Q I r h;obtain⟨v,vr,e1,h⟩:=h;subst e1;cases r with
 |cons r rr=>
  rw[hs];refine assignInOrder_cons (Gq (B O s Z H _ _ _ I r h) λ_ s1 ⟨dq,H1,I1,q1⟩=>?_);exact Y O s1 dq H1 _ _ Q I1 rr q1
noncomputable def c7k(K:W.Frag)(n:Nat)(t:TGs):TG:=λv Z H Q=>∃a xs,v=.ref a/\Lp K H a xs/\k_=n/\t xs Z H Q
theorem b4f{es:bH_}{k:Nat}{t:TGs}{n:Nat}(hc:be!)(h:PGs X es t)
  (hn:(lX!).length=n:=by rfl)(bx:(lX!).findIdx? a_=none:=by rfl):PG X (.Tuple es k pos) (c7k X.K n t):=by
 intro O s Z H v u Q I r hw;obtain⟨a,xs,e1,hq,hl,hw⟩:=hw;subst e1;cases r;obtain⟨its,rv,ht,hz⟩:=I.tuple hq;refine assign_Tuple_tuple bJ_ ht (by simp[hn,<-hl,rv.length]) bx λh' L=>?_;have I1:Inv X O Z H {s with heap:=h'}:=I.kept (t':=s.toks) λb o e=>L b o (BV cS!) e;exact h O _ Z H xs _ Q I1 (by simpa using rv) hw
noncomputable def d5z(to ti:TE)(t:c3f):TG:=λv Z H Q=>to Z H λo H1=>ti Z H1 λi H2=>t o i v H2 λH3=>Q Z H3
theorem b4g{o:Expr}{to ti:TE}{t:c3f}(ho:lX_)(hi:PE X i ti)(hs:b1e X t)
  (ha:∀v,assign rs_ X.env v=(do
   let ov <-holding [v] dH_
   let iv <-holding [v,ov] rt_
   standAt pos
   holding eE_ lY!
   release eE_ []):=by intro _;rfl):PG X rs_ (d5z to ti t):=by
 intro O s Z H v u Q I r h;rw[ha];refine AA (CC (Gq rt! λov s1 ⟨x,H1,I1,r1,q1⟩=>?_));refine AA (CC (Gq (hi O s1 Z H1 _ I1 q1) λiv s2 ⟨y,H2,I2,r2,q2⟩=>?_));refine AA (IA (AA (CC (Gq (hs O s2 Z H2 x y v ov iv u _ I2 r1 r2 r q2) λ_ s3 ⟨H3,I3,q3⟩=>?_))));exact wpAny_release ⟨Z,H3,I3,q3⟩
noncomputable def c5g(te:TE)(g:TG):TS:=λD Z H=>te Z H λx H1=>g x Z H1 D.nx
theorem b4a{tg e:Expr}{te:TE}{g:TG}(he:ct!)(hg:lZ!)(hs:swapsWithSole [tg] e pos.line X.env=pure false:=by rfl)(hw:swappedStores [tg] e X.env=pure none:=by rfl)
  (B:(assignEach [tg] X.env).map B_=[assign tg X.env]:=by rfl):PS X (.Assign [tg] e pos) (c5g te g):=by
 intro O s Z H D I h;refine wpAny_Assign_stores ru_ hs hw;rw[B];exact Gq (hg O s1 Z H1 x v _ I1 r1 q1) λ_ s2 q=>q
theorem a2z{i:Nat}{x:Str}{e:Expr}{te:TE}{ic:Pos}(hN:bt_)(hi:ak_)(L:bu!)(he:ct!)(hs:swapsWith e (some ij_) pos.line X.env=pure false:=by rfl)(hf:X.fn x=true\/X.env.scope.names.lookup x=some .local:=by first|exact .inl rfl|exact .inr rfl|assumption):
  PS X (.Assign [.Name x ic] e pos) (c5g te eD_):=by
 intro O s Z H D I h;refine wpAny_Assign_Name (Gq c0_ λv s1 ⟨y,H1,I1,r1,q1⟩=>?_) hs;exact jT I1 hN hi L r1 (λs2 I2=>⟨_,H1,I2,q1⟩) hf
noncomputable def d4v(i:Nat)(te:TE)(ti:TIp):TS:=λD Z H=>∃x,Z[i]?=some gd!/\te Z H λy H1=>ti x y H1 λz H2=>D.nx (Z.set i (some z)) H2
theorem c5y{i:Nat}{x:Str}{e:Expr}{te:TE}{op:Operator}{ti:TIp}{ic:Pos}(hN:bt_)(hi:ak_)(L:bu!)(he:ct!)(ho:PIp X op ti)(hf:X.fn x=true\/X.env.scope.names.lookup x=some .local:=by first|exact .inl rfl|exact .inr rfl|assumption):
  PS X (.AugAssign ij_ op e pos) (d4v i te ti):=by
 intro O s Z H D I h;obtain⟨v,e1,h⟩:=h;obtain⟨m,hn,hl⟩:=I.loc;have OY:Vis X.env.scope x:=by rcases L with k|k;exact .inl k;exact .inr (.inl k)
 obtain⟨u,r,l⟩:=hl i x v hi e1 OY;refine wpAny_AugAssign_Name ?_;have go:wpAny e_ X.A ez! (λw ak=>wpAny e_ X.A (inplaceOp op u w) (λr dr=>wpAny e_ X.A (storeName X.env x r) (λ_=>SP X O D .next) X.xe dr) X.xe ak) X.xe s:=by
  refine Gq c0_ λw s1 ⟨y,H1,I1,r1,q1⟩=>?_;refine Gq (ho O s1 Z H1 v y u w _ I1 r r1 q1) λz s2 ⟨zv,H2,I2,r2,q2⟩=>?_;exact jT I2 hN hi L r2 (λs3 I3=>⟨_,H2,I3,q2⟩) hf
 rcases l with⟨hk,hm⟩|⟨hk,c,hc,b9⟩
 .exact wpAny_loadName_local I.ok.kind hk hn hm go
 .rcases hk with hk|hk
  .exact wpAny_loadName_cell I.ok.kind hk hc b9 go
  .rcases L with k|k
   .show"!j"
   .show"!j"
noncomputable def ipI(f:l4!):TIp:=λx y H Q=>∃i j,x=.int i/\y=.int j/\Q (.int (f i j)) H
theorem c7h:PIp X .Add (ipI λi j=>i+j):=by intro O s Z H x y v u Q I r1 r2 h;obtain⟨i,j,e1,e2,q⟩:=h;subst e1;subst e2;obtain⟨t,rfl⟩:=r1;obtain⟨t',rfl⟩:=r2;exact iadd_int il!
noncomputable def c5e(c:TT)(tb:TS):TS:=λD Z H=>∃W:Nat->St->Hp->Prop,(∃m,W m Z H)/\∀m Z H,W m Z H->
 c Z H λb H1=>if b=true then∃N:St->Hp->Prop,(∀hx H',N hx H'->∃m',m'<m/\W m' hx H')/\tb {D with nx:=N,ct:=N,bk:=D.nx} Z H1 else D.nx Z H1
theorem b3x{c:Expr}{body:b0_}{tc:TT}{tb:TS}(hp:ge_)(hc:PT X c tc)(J:PSs X body tb):PS X rz_ (c5e tc tb):=by
 intro O s Z H D I h;obtain⟨W,⟨m0,w0⟩,turn⟩:=h;refine wpAny_While (codeAny_whileLoop (λn s'=>∃hx H',Inv X O hx H' s'/\W n hx H') ?_ m0 ⟨Z,H,I,w0⟩);rintro n s1 ⟨dq,H1,I1,w1⟩;refine FQ hp (Gq (hc O s1 dq H1 _ I1 (turn n dq H1 w1)) λb s2 ⟨H2,I2,q2⟩=>?_);cases b with
 |true=>
  obtain⟨N,hN,q2⟩:=q2;rw[j!];refine FQ hp (Gq (J O s2 dq H2 _ I2 q2) λf s3 q3=>?_);cases f with
  |next=>
   show"!d"
  |cont=>
   show"!d"
  |brk=>exact q3
  |ret v=>exact q3
 |false=>
  rw[AH BC];exact IR ⟨dq,H2,I2,q2⟩
end
structure It where
 go:Nat->Hp->Prop
 yld:Nat->Hp->V->Hp->Prop
 stop:Nat->Hp->Prop
noncomputable def Qs(X:Cx)(O:n!)(H:Hp)(b:Addr):Prop:=
 H b=none/\b≠X.env.locals/\b∉X.fs/\h1_/\h2!/\∀p∈X.pn++O,p.1≠b
theorem Inv.fpOk{X:Cx}{O:n!}{Z:St}{H H':Hp}{s:Shared}{b:Addr}(I:d!)(J:q!<=b)(hn:H' b=none):Qs X O H' b:=by
 refine⟨hn,GL (BE I.lt J),I.nofs J,.inr (BN I.sz J),λx c e z=>?_,λp hp z=>?_⟩
 .obtain⟨v,q⟩:=I.cell x c e;exact absurd (BE q.lt rA_) dz_
 .exact absurd (BE wD! rA_) dz_
structure wH(P:Program)(w:World)(K:W.Frag)(tg:Expr)(ab:It)(fp:aq!)(it:Addr)(tn:dI!):Prop where
 mem:it∈fp
 obj:∀i h,tn i h->∀b∈fp,∃o,h.get? b=some o/\∀v,o.data≠.cell v
 keep:∀i h h',tn i h->(∀b∈fp,∀o,h.get? b=some o->h'.get? b=some o)->tn i h'
 item:∀(X:Cx),X.prog=P->X.w=w->X.K=K->X.calm=true->∀(i:Nat) (O:n!) (s:Shared) (Z:St) (H:Hp) (E:p_),Inv X O Z H s->rC!->tn i s.heap->ab.go i H->
  wpAny J! X.A im! (λr s1=>∃u,r=some u/\
   wpAny J! X.A rC_ (λ_ s2=>∃x H',Inv X O Z H' s2/\Ds x u/\ab.yld i H x H'/\tn ba! s2.heap/\∀b∈fp,H' b=none) E s1) E s
 done:∀(X:Cx),X.prog=P->X.w=w->X.K=K->X.calm=true->∀(i:Nat) (O:n!) (s:Shared) (Z:St) (H:Hp) (E:p_),Inv X O Z H s->rC!->tn i s.heap->ab.stop i H->
  wpAny J! X.A im! (λr s1=>r=none/\Inv X O Z H s1) E s
 self:∀(A:Around) (i:Nat) (s:Shared) (Q:p_) (E:p_),tn i s.heap->Q b2_ s->wpAny J! A (pyIter b2_) Q E s
abbrev TI:=St->Hp->(It->Hp->Prop)->Prop
noncomputable def PIE(X:Cx)(O:n!)(Z:St)(tg:Expr)(R:gf_)(uz:Value)(s2:Shared):Prop:=
 ∃(it:Addr) (fp:aq!) (tn:dI!) (ab:It) (H':Hp),uz=.ref it/\Inv X O Z H' s2/\wH X.prog X.w X.K tg ab fp it tn/\tn 0 s2.heap/\(∀b∈fp,Qs X O H' b)/\R ab H'
noncomputable def PI(X:Cx)(tg iter:Expr)(wi:TI):Prop:=
 ∀(O:n!) (s:Shared) (Z:St) (H:Hp) (R:gf_),Inv X O Z H s->wi Z H R->
  wpAny e_ X.A (eval iter X.env) (λv s1=>wpAny e_ X.A (pyIter v) rE_ X.xe s1) X.xe s
theorem b6r{M:Model}{A:Around}{E:p_}{s:Shared}{tg:Expr}{u:Value}{o:Obj}{n:String}{vs:ab_}{Q:cT!}(ho:s.heap.get? it=some o)(hc:o.cls=.type n)(hd:o.data=.fields vs)
  (hn:(rF_).contains n=false)(hQ:Q () s):wpAny M A rC_ Q E s:=by
 unfold letOwnedTupleGo;cases tg<;>first
  |exact AC hQ
  |(cases u<;>first
    |exact AC hQ
    |(refine AA (wpAny_load ho ?_);rw[hc,hd];show wpAny M A (if((rF_).contains n&&vs[0]?==some (rawInt _))=true then _ else _) Q E s;rw[AH (by intro h;rw[hn,Bool.false_and]at h;cases h)];exact AC hQ))
noncomputable def Itl(K:W.Frag)(a:Addr):It:=
 ⟨λi H=>∃xs x,Kw K H a xs/\xs[i]?=some x,λi H x H'=>H'=H/\∀xs,Kw K H a xs->xs[i]?=some x,λi H=>∃xs,Kw K H a xs/\k_<=i⟩
noncomputable def Itt(K:W.Frag)(a:Addr):It:=
 ⟨λi H=>∃xs x,Lp K H a xs/\xs[i]?=some x,λi H x H'=>H'=H/\∀xs,Lp K H a xs->xs[i]?=some x,λi H=>∃xs,Lp K H a xs/\k_<=i⟩
noncomputable def Itr(lo:Int)(n:Nat):It:=⟨λi _=>i<n,λi H x H'=>H'=H/\x=.int (lo+i),λi _=>n<=i⟩
theorem a8q{P:Program}{w:World}{K:W.Frag}{tg:Expr}(a it:Addr):wH P w K tg (Itl K a) [it] it (λi h=>h.IsListIter it a i) where
 mem:=by simp
 obj:=λi h st b J=>by
  have e:b=it:=by simpa using J
  subst e;show"##"
 keep:=λi h h' st k=>st.at λo e=>k it d_ o e
 item:=by
  show"!0";obtain⟨xs,x,hq,L⟩:=hg;obtain⟨its,rv,p,hz⟩:=I.list hq;obtain⟨u,hu,ru⟩:=rv.get L;show"!2";refine wpAny_pyNext_list_item st p.isList (x:=u) rI_ λh' h1 sb=>?_;have I1:Inv X O Z H {s with heap:=h'}:=I.turned (t':=s.toks) rJ! f0 f1 f3 f4 f5;obtain⟨o,e,c,d⟩:=id h1;exact⟨u,rfl,b6r (s:=l6_) e c d c! ⟨x,H,I1,ru,⟨rfl,λys hy=>by rw[I.list_inj hy hq];exact L⟩,h1,l7!⟩⟩
 done:=by
  show"!0";obtain⟨xs,hq,L⟩:=hg;obtain⟨its,rv,p,hz⟩:=I.list hq;show"!2";have hl:=gh!;exact wpAny_pyNext_list_end bJ_ st p.isList b3_ λh' eb=>l7_
 self:=λ_ _ _ _ _ st h=>wpAny_pyIter_listiter st h
theorem a1w{P:Program}{w:World}{K:W.Frag}{tg:Expr}(it:Addr)(lo:Int)(n:Nat):wH P w K tg (Itr lo n) [it] it (λi h=>IsRangeIter h it (lo+(i:Nat)*1) ((n:Int) - (i:Nat)) 1) where
 mem:=by simp
 obj:=λi h st b J=>by
  have e:b=it:=by simpa using J
  subst e;exact⟨_,st,λv z=>by
   have z':Data.fields _=Data.cell v:=z;cases z'⟩
 keep:=λi h h' st k=>k it d_ _ st
 item:=by
  show"!0";show"!2";have W:=Walks.range (prog:=X.prog) (w:=X.w) bJ_ it lo 1 n;refine W.item i s _ _ hg st λv h' tk hv h1 kk=>?_;obtain⟨t,rfl⟩:=hv;show"!^";refine⟨_,rfl,b6r (s:={s with heap:=h',toks:=tk}) (n:="range_iterator") h1 rfl rfl c! ⟨.int (lo+i),H,I1,⟨t,?_⟩,bK_,h1,l7!⟩⟩;rw[Int.mul_one]
 done:=by
  show"!0";show"!2";exact wpAny_pyNext_range_end bJ_ st (by have:n<=i:=hg;omega) λh' eb=>l7_
 self:=λ_ _ _ _ _ st h=>wpAny_pyIter_rangeiter st h
end L2
namespace L2
open PySem PySem.Spec PyProof.Rows
section
variable{X:Cx}{tg:Expr}
noncomputable def d2c(K:W.Frag)(tl:TE):TI:=λZ H R=>tl Z H λx H1=>∃a,x=.ref a/\(∃xs,Kw K H1 a xs)/\R (Itl K a) H1
noncomputable def d5w(K:W.Frag)(tl:TE):TI:=λZ H R=>tl Z H λx H1=>∃a,x=.ref a/\(∃xs,Lp K H1 a xs)/\R (Itt K a) H1
theorem a6o{l:Expr}{tl:TE}(hl:PE X l tl):PI X tg l (d2c X.K tl):=by
 intro O s Z H R I h;refine Gq rK_ λv s1 ⟨x,H1,I1,r1,q1⟩=>?_;obtain⟨a,e,⟨xs,hq⟩,q⟩:=q1;subst e;cases r1;obtain⟨its,rv,p,hz⟩:=I1.list hq;refine wpAny_pyIter_list p.isList ?_;refine⟨D!,[D!],_,_,H1,rfl,l9_,a8q a _,eG!,bL!,q⟩;have e:b=D!:=by simpa using J
 show"!m"
theorem xV{O:n!}{Z:St}{H:Hp}{s:Shared}{R:gf_}{E:p_}{lo hi:Int}{t u v:Tok}{tk:Nat}(I:d!)(B:-gk_<=lo)(Y:lo<2 ^ 62)(h3:-gk_<=hi)(h4:hi<2 ^ 62)
  (q:R (Itr lo (oO!).toNat) H):wpAny e_ X.A (pyIter c1_) rE_ E {s with heap:=s.heap.push {cls:=.type "range",data:=.fields #[.int lo t,.int hi u,.int 1 v]},toks:=tk}:=by
 refine wpAny_pyIter_range (IsRange.new ..) (small_one B Y h3 h4) ?_;have I1:Inv X O Z H {s with heap:=s.heap.push {cls:=.type "range",data:=.fields #[.int lo t,.int hi u,.int 1 v]},toks:=tk}:=I.kept λb o e=>AG _ e;refine⟨(ma!).objs.size,[(ma!).objs.size],_,_,H,rfl,
  I1.kept (t':=tk) λb o e=>AG _ e,a1w _ lo (oO!).toNat,?_,λb J=>?_,q⟩
 .have e1:lo+gl!*1=lo:=by simp
  have e2:rM_ - gl!=Builtin.Range.rangeSize lo hi 1:=by rw[rangeSize_one];split<;>omega
  show IsRangeIter _ _ (lo+gl!*1) (rM_ - gl!) 1;rw[e1,e2];exact BD _ rfl
 .have e:b=(ma!).objs.size:=by simpa using J
  show"!m"
noncomputable def d2b(ta:TA):TI:=λZ H R=>ta Z H λvs H1=>∃j:Int,vs=[eH!]/\-gk_<=j/\j<2 ^ 62/\R (Itr 0 j.toNat) H1
noncomputable def d2a(ta:TA):TI:=λZ H R=>ta Z H λvs H1=>∃i j:Int,vs=[bI!,eH!]/\(-gk_<=i/\i<2 ^ 62/\-gk_<=j/\j<2 ^ 62)/\R (Itr i (j - i).toNat) H1
theorem a9o{a:Expr}{ta:TA}{p pos:Pos}(hg:ir!)(hm:ir_)(ha:PA X [a] ta)(hs:rN_:=by rfl):PI X tg rO_ (d2b ta):=by
 intro O s Z H R I h;refine Call_ (Wm I hg hm boot_range (EC ma_ hs rfl));obtain⟨j,e,q1,q2,q⟩:=q1;subst e;cases r1 with
 |cons r rr=>
  cases rr;obtain⟨t,rfl⟩:=r;exact call_range_1 (xV I1 a! a! q1 q2 (by simpa using q))
theorem a9n{a b:Expr}{ta:TA}{p pos:Pos}(hg:ir!)(hm:ir_)(ha:PA X ai! ta)(hs:rP!:=by rfl)(bm:rQ!:=by rfl):
  PI X tg rQ_ (d2a ta):=by
 intro O s Z H R I h;refine Call_ (Wm I hg hm boot_range (EC ma_ (by rw[hs,bm]) (by rw[bm];rfl)));obtain⟨i,j,e,⟨q1,q2,q3,q4⟩,q⟩:=q1;subst e;cases r1 with
 |cons r rr=>
  cases rr with
  |cons r' rr=>
   cases rr;obtain⟨t,rfl⟩:=r;obtain⟨t',rfl⟩:=r';exact call_range_2 (xV I1 q1 q2 q3 q4 q)
noncomputable def d4s(wi:TI)(g:TG)(tb:TS):TS:=λD Z H=>wi Z H λab H1=>∃W:Nat->Nat->St->Hp->Prop,(∃m,W 0 m Z H1)/\∀i m Z H,W i m Z H->
 (ab.stop i H/\D.nx Z H)\/(ab.go i H/\∃N:St->Hp->Prop,(∀hx H',N hx H'->∃m',m'<m/\W ba! m' hx H')/\∀x H',ab.yld i H x H'->g x Z H' λcy H2=>tb {D with nx:=N,ct:=N,bk:=D.nx} cy H2)
noncomputable def lH(fp:aq!)(h:Heap):List ew!:=fp.filterMap λb=>(h.get? b).map λo=>(b,o)
theorem Tp{fp:aq!}{h:Heap}{b:Addr}{o:Obj}(J:b∈fp)(e:qA_):(b,o)∈lH fp h:=FB.mpr ⟨b,J,by rw[e];rfl⟩
theorem b0f{fp:aq!}{h:Heap}{p:Addr×Obj}(hp:p∈lH fp h):p.1∈fp/\h.get? p.1=some p.2:=by
 obtain⟨b,J,e⟩:=FB.mp hp;cases q:h.get? b with
 |none=>rw[q]at e;cases e
 |some o=>
  rw[q]at e;have e':(b,o)=p:=BZ e;subst e';exact⟨J,q⟩
theorem Inv.pinned{O:n!}{Z:St}{H:Hp}{s:Shared}{fp:aq!}(I:d!)(hf:∀b∈fp,Qs X O H b)(ho:∀b∈fp,∃o,s.heap.get? b=some o/\∀v,o.data≠.cell v):Inv X (O++lH fp s.heap) Z H s:=
 I.pins_of λp hp=>(AQ.mp hp).elim (λz=>I.pin p (AS _ z)) λz=>by
  obtain⟨J,e⟩:=b0f z;obtain⟨f0,f1,f2,_⟩:=hf p.1 J;obtain⟨o,e',d⟩:=ho p.1 J;rw[e]at e';cases e';exact⟨e,f0,f1,f2,d⟩
theorem Inv.unpinned{O pl:n!}{Z:St}{H:Hp}{s:Shared}(I:Inv X (O++pl) Z H s):Inv X O Z H s:=I.pins_of λp hp=>I.pin p (AS _ (BG _ hp))
theorem b3z{body:b0_}{wi:TI}{g:TG}{tb:TS}{pos:Pos}(hp:ge_)(hc:be!)(hi:mc!)(hg:lZ!)(J:PSs X body tb)
  (hs:c2!:=by intro _;rfl):PS X rT_ (d4s wi g tb):=by
 intro O s Z H D I h;refine wpAny_For (Gq (hi O s Z H _ I h) λv s1 B=>Gq B λuz s2 Y=>?_) hs;obtain⟨it,fp,tn,ab,H2,e,I2,T,bf,f2,W,⟨m0,w0⟩,turn⟩:=Y;subst e;have lp:∀{H':Hp},gn_->∀b∈fp,Qs X O H' b:=λhn b J=>⟨hn b J,(iu_).2⟩;refine codeAny_forLoop_any (λn s'=>∃i hx H',Inv X O hx H' s'/\tn i s'.heap/\gn_/\W i n hx H') ?_ m0 ⟨0,Z,H2,I2,bf,rV!,w0⟩;rintro n s3 ⟨i,gh,H3,I3,u6,KC,w3⟩;rcases turn i n gh H3 w3 with⟨stop,qn⟩|⟨go,N,hN,step⟩
 .refine FQ hp (Gq (T.done X rfl rfl rfl hc i O s3 gh H3 X.xe I3 (lp KC) u6 stop) λr s4 ⟨hr,I4⟩=>?_);subst hr;exact IR ⟨gh,H3,I4,qn⟩
 .refine FQ hp (Gq (T.item X rfl rfl rfl hc i O s3 gh H3 X.xe I3 (lp KC) u6 go) λr s4 ⟨u,hr,h4⟩=>?_);subst hr;refine FQ hp (Gq h4 λ_ s5 ⟨x,H5,I5,r5,y5,lu,ww⟩=>?_);have wx:=I5.pinned (lp ww) rW!;refine FQ hp (Gq (hg _ s5 gh H5 x u _ wx r5 rW_) λ_ s6 ⟨kj,H6,I6,q6⟩=>?_);refine FQ hp (Gq (J _ s6 kj H6 _ I6 q6) λf s7 q7=>?_);have again:∀{ij:St} {H7:Hp},Inv X (O++lH fp s5.heap) ij H7 s7->N ij H7->∃m,m<n/\∃i hx H',Inv X O hx H' s7/\tn i s7.heap/\gn_/\W i m hx H':=λ{ij H7} I7 n7=>by
   obtain⟨m',hm,w7⟩:=hN ij H7 n7;refine⟨m',hm,i+1,ij,H7,iv_,T.keep _ _ _ lu λb J o e=>(rY_).1,bL!,w7⟩;obtain⟨o,e,d⟩:=T.obj _ _ lu b J;exact(rY_).2.1
  cases f with
  |next=>obtain⟨ij,H7,I7,n7⟩:=q7;exact again I7 n7
  |cont=>obtain⟨ij,H7,I7,n7⟩:=q7;exact again I7 n7
  |brk=>obtain⟨ij,H7,I7,q7⟩:=q7;exact⟨ij,H7,iv_,q7⟩
  |ret v=>obtain⟨x7,ij,H7,I7,r7,q7⟩:=q7;exact⟨x7,ij,H7,iv_,r7,q7⟩
end
end L2
namespace L2
open PySem PySem.Spec PyProof.Rows
abbrev R2:=V->V->Hp->VK->Prop
noncomputable def Ml(X:Cx)(f:eJ!)(r:R2):Prop:=
 ∀(O:n!) (s:Shared) (Z:St) (H:Hp) (x y:V) (v u:Value) (Q:VK),Inv X O Z H s->Ds x v->Ds y u->r x y H Q->
  wpAny e_ X.A (f v u) aH_ X.xe s
noncomputable def UnR(X:Cx)(f:r0!)(r:mc_):Prop:=
 ∀(O:n!) (s:Shared) (Z:St) (H:Hp) (x:V) (v:Value) (Q:VK),Inv X O Z H s->Ds x v->r x H Q->
  wpAny e_ X.A (f v) aH_ X.xe s
noncomputable def Ph(X:Cx)(f:Value)(r:cv!):Prop:=
 ∀(O:n!) (s:Shared) (Z:St) (H:Hp) (xs:l_) (us:h!) (Q:VK),Inv X O Z H s->Ci xs us->r xs H Q->
  wpAny e_ X.A (call f us) aH_ X.xe s
noncomputable def d6h(X:Cx)(r:V->Hp->q7_->Prop):Prop:=
 ∀(O:n!) (s:Shared) (Z:St) (H:Hp) (x:V) (v:Value) (Q:dC_),Inv X O Z H s->Ds x v->r x H Q->
  wpAny e_ X.A lQ! jk_ X.xe s
noncomputable def tOp(r:R2)(ta tb:TE):TE:=λZ H Q=>ta Z H λx H1=>tb Z H1 λy H2=>r x y H2 Q
noncomputable def tUn(r:mc_)(ta:TE):TE:=λZ H Q=>ta Z H λx H1=>r x H1 Q
noncomputable def rI(C:md_)(g:iw_):R2:=λx y H Q=>∃i j,x=.int i/\y=.int j/\C i j/\Q by! H
noncomputable def tE(g:iw_):R2:=λx y H Q=>∃i j,x=.int i/\y=.int j/\Q by! H
noncomputable def rU(g:Int->V):V->Hp->VK->Prop:=λx H Q=>∃i,x=.int i/\Q (g i) H
section
variable{X:Cx}{a b c:Expr}{ta tb tc:TE}{pos:Pos}
theorem c8n(ha:a0!)(J:cr_){O:n!}{s:Shared}{Z:St}{H:Hp}{R:uP_}(I:d!)
  (h:q9_){Q:p_}{f:eJ!}
  (hf:ra!):
  wpAny e_ X.A lO! rb! X.xe s:=by
 show"!:"
theorem a6q{op:Operator}{r:R2}(ho:me!)(ha:a0!)(J:cr_):PE X me_ ix!:=by intro O s Z H Q I h;exact wpAny_BinOp r1!
theorem d1b{op:UnaryOp}{r:mc_}(ho:UnR X (unaryOp op) r)(ha:a0!):PE X (.UnaryOp op a pos) (tUn r ta):=by intro O s Z H Q I h;exact UnaryOp_ (Gq b1! λv s1 ⟨x,H1,I1,r1,q1⟩=>ho O s1 Z H1 x v Q I1 r1 q1)
theorem opI{f:eJ!}{C:md_}{g:l4!}
  (rule:∀(i j:Int) (t u:Tok) (s:Shared) (Q:p_) (E:p_),C i j->Q r2_ {s with toks:=s.toks+1}->wpAny e_ X.A mf_ Q E s):
  Ml X f (rI C λi j=>.int by!):=by
 intro O s Z H x y v u Q I rx ry h;obtain⟨i,j,rfl,rfl,hc,q⟩:=h;show"!A";obtain⟨t',rfl⟩:=ry;exact rule i j t t' s _ _ hc r3_
theorem d1h{f:eJ!}{g:l4!}
  (rule:∀(i j:Int) (t u:Tok) (s:Shared) (Q:p_) (E:p_),Q r2_ {s with toks:=s.toks+1}->wpAny e_ X.A mf_ Q E s):
  Ml X f (tE λi j=>.int by!):=by
 show"!K";exact rule i j t t' s _ _ r3_
theorem c1b{f:eJ!}{g:mg_}
  (rule:∀(i j:Int) (t u:Tok) (s:Shared) (Q:p_) (E:p_),Q (.bool by!) s->wpAny e_ X.A mf_ Q E s):
  Ml X f (tE λi j=>.bl by!):=by
 show"!K";exact rule i j t t' s _ _ ⟨.bl by!,H,I,rfl,q⟩
noncomputable def c9a(i j:Int):Prop:=0<j/\j<1073741824
noncomputable def c8z(i j:Int):Prop:=0<=j/\j<=1000000/\go!<2 ^ 64
noncomputable def b8o(i j:Int):Prop:=(-ix_<i/\i<2 ^ 64)\/(-ix_<j/\j<2 ^ 64)
theorem b8o.ok{i j:Int}(h:b8o i j):IntMulOk i j:=by
 rcases h with⟨B,Y⟩|⟨B,Y⟩
 .exact .of_left r4!
 .exact .of_right r4!
theorem c6l:Ml X eJ_ (tE λi j=>.int (i+j)):=d1h λ_ _ _ _ _ _ _ q=>add_int q
theorem eL:Ml X (binaryOp .Sub) r5!:=d1h λ_ _ _ _ _ _ _ q=>sub_int q
theorem eM:Ml X mi_ mj!:=opI λ_ _ _ _ _ _ _ hc q=>mul_int q hc.ok
theorem Xv:Ml X (binaryOp .FloorDiv) mj_:=opI λi j _ _ _ _ _ hc q=>by
 have B:(0:Int)<j:=hc.1;have Y:j<1073741824:=hc.2;exact floordiv_int a! (by rw[Int.fdiv_eq_ediv_of_nonneg i a!];exact q) (.inl (PyProof.noPylong_small a!))
theorem Kh:Ml X (binaryOp .Mod) ml!:=opI λi j _ _ _ _ _ hc q=>by
 have B:(0:Int)<j:=hc;exact mod_int' a! (by rw[Int.fmod_eq_emod_of_nonneg i a!];exact q)
theorem c6e:Ml X (binaryOp .Pow) ml_:=opI λ_ _ _ _ _ _ _ hc q=>pow_int_small hc.1 hc.2.1 hc.2.2 q
theorem unI{f:r0!}{g:Int->Int}
  (rule:∀(i:Int) (t:Tok) (s:Shared) (Q:p_) (E:p_),Q (.int (g i) s.toks) {s with toks:=s.toks+1}->wpAny e_ X.A (f dx_) Q E s):
  UnR X f (rU λi=>.int (g i)):=by
 intro O s Z H x v Q I rx h;obtain⟨i,rfl,q⟩:=h;show"!A";exact rule i t s _ _ ⟨.int (g i),H,a0_,K_,q⟩
theorem c4y:UnR X (unaryOp .USub) (rU λi=>.int (-i)):=unI λ_ _ _ _ _ q=>neg_int q
end
noncomputable def d4x:V->V->Bool
 |.non,.non=>true|.non,.int _=>true|.int _,.non=>true|.non,.bl _=>true|.bl _,.non=>true|.non,.str _=>true|.str _,.non=>true
 |.int _,.int _=>true|.bl _,.bl _=>true|.str _,.str _=>true|.byt _,.byt _=>true
 |.int _,.str _=>true|.str _,.int _=>true|.bl _,.str _=>true|.str _,.bl _=>true
 |_,_=>false
noncomputable def rNe:R2:=λx y H Q=>d4x x y=true/\Q (.bl (!decide (x=y))) H
theorem a7w{i j:Int}:decide (V.int i=V.int j)=(i==j):=by rw[EH];simp
theorem c8a{i j:Bool}:decide (V.bl i=V.bl j)=(i==j):=by rw[EH];simp
theorem a7v:decide (V.str i=V.str j)=(i==j):=by rw[EH];simp
theorem c2o{i j:Array UInt8}:decide (V.byt i=V.byt j)=(i.toList==j.toList):=by rw[EH];cases i;cases j;simp
section
variable{X:Cx}{a b c:Expr}{ta tb tc:TE}{pos:Pos}
theorem Jh{O:n!}{Z:St}{H:Hp}{s:Shared}{Q:VK}{k k':Bool}(I:d!)(q:Q (.bl k) H)(e:k=k'):EP X O Z Q (.bool k') s:=by subst e;exact⟨.bl k,H,I,rfl,q⟩
theorem qM:Ml X sa! rNe:=by
 intro O s Z H x y v u Q I rx ry h;obtain⟨hs,q⟩:=h;cases x with
 |non=>
  cases rx;cases y with
  |non=>cases ry;exact PySem.EqNone.ne_none_none bM_
  |bl j=>cases ry;exact PySem.EqNone.ne_none_bool bM_
  |int j=>obtain⟨t',rfl⟩:=ry;exact PySem.EqNone.ne_none_int bM_
  |str j=>obtain⟨t',rfl⟩:=ry;exact PySem.EqNone.ne_none_str bM_
  |_=>exact absurd eL! BC
 |bl i=>
  cases rx;cases y with
  |non=>cases ry;exact PySem.EqNone.ne_bool_none bM_
  |bl j=>cases ry;exact ne_bool (Jh I q (congrArg not c8a))
  |str j=>obtain⟨t',rfl⟩:=ry;exact PySem.EqMixed.ne_bool_str bM_
  |_=>exact absurd eL! BC
 |int i=>
  obtain⟨t,rfl⟩:=rx;cases y with
  |non=>cases ry;exact PySem.EqNone.ne_int_none bM_
  |int j=>obtain⟨t',rfl⟩:=ry;exact ne_int (Jh I q (congrArg not a7w))
  |str j=>obtain⟨t',rfl⟩:=ry;exact PySem.EqMixed.ne_int_str bM_
  |_=>exact absurd eL! BC
 |str i=>
  obtain⟨t,rfl⟩:=rx;cases y with
  |non=>cases ry;exact PySem.EqNone.ne_str_none bM_
  |bl j=>cases ry;exact PySem.EqMixed.ne_str_bool bM_
  |int j=>obtain⟨t',rfl⟩:=ry;exact PySem.EqMixed.ne_str_int bM_
  |str j=>obtain⟨t',rfl⟩:=ry;exact ne_str (Jh I q (congrArg not a7v))
  |_=>exact absurd eL! BC
 |byt i=>
  obtain⟨t,rfl⟩:=rx;cases y with
  |byt j=>obtain⟨t',rfl⟩:=ry;exact W.ne_bytes (Jh I q (congrArg not c2o))
  |_=>exact absurd eL! BC
 |_=>cases y<;>exact absurd eL! BC
theorem a6x:Ml X (compareOp .Lt) mo!:=c1b λ_ _ _ _ _ _ _ q=>lt_int q
theorem d1e:Ml X mo_ (tE λi j=>.bl mp_):=c1b λ_ _ _ _ _ _ _ q=>le_int q
theorem c4c:Ml X sc_ mq!:=c1b λ_ _ _ _ _ _ _ q=>gt_int q
theorem d1g:Ml X (compareOp .GtE) mr!:=c1b λ_ _ _ _ _ _ _ q=>ge_int q
theorem a3c:Ml X sf! se_:=by
 intro O s Z H x y v u Q I rx ry h;obtain⟨rfl,q⟩:=h;cases ry;refine is_none_gen (Jh I q ?_);cases x<;>first
  |(cases rx;rfl)
  |(obtain⟨t,rfl⟩:=rx;rfl)
theorem Xt:Ml X sf_ sh!:=by
 intro O s Z H x y v u Q I rx ry h;obtain⟨rfl,q⟩:=h;cases ry;refine isnot_none_gen (Jh I q ?_);cases x<;>first
  |(cases rx;rfl)
  |(obtain⟨t,rfl⟩:=rx;rfl)
theorem Ml.or{f:eJ!}{r r':R2}(h:Ml X f r)(h':Ml X f r'):Ml X f si!:=by
 intro O s Z H x y v u Q I rx ry q;rcases q with q|q
 .exact h O s Z H x y v u Q I rx ry q
 .exact h' O s Z H x y v u Q I rx ry q
theorem Be(b:Expr){op:CmpOp}(h:op≠.In:=by decide)(Y:op≠.NotIn:=by decide):behindInMarks op b=false:=by
 have e1:rg!=false:=by cases op<;>first|rfl|exact absurd rfl h
 have e2:rg_=false:=by cases op<;>first|rfl|exact absurd rfl Y
 cases b<;>simp[behindInMarks,e1,e2]
theorem a6s{op:CmpOp}{r:R2}(ho:b6_)(ha:a0!)(J:cr_)(hm:dF!):PE X dG! ix!:=by intro O s Z H Q I h;exact wpAny_Compare1 r1! hm
noncomputable def c3m(t:TE):TT:=λZ H Q=>t Z H λx H'=>∃k,x=.bl k/\Q k H'
theorem a6i{op:CmpOp}{r:R2}(ho:b6_)(ha:a0!)(J:cr_)(hm:dF!):PT X dG! (c3m ix!):=by
 intro O s Z H Q I h;refine IP (Gq b1! λv s1 ⟨x,H1,I1,r1,q1⟩=>Gq f5_ λu s2 ⟨y,H2,I2,r2,q2⟩=>
  Gq mt! λc s3 ⟨z,H3,I3,r3,k,e,q3⟩=>?_) hm
 subst e;cases r3;exact CA ⟨H3,I3,q3⟩
noncomputable def b2d(r r':R2)(ta tb tc:TE):TE:=λZ H Q=>ta Z H λx H1=>tb Z H1 λy H2=>r x y H2 λz H3=>∃k,z=.bl k/\
 (if k=true then tc Z H3 λw' H4=>r' y w' H4 Q else Q Y_ H3)
theorem b4q{op dz:CmpOp}{r r':R2}(ho:b6_)(c9:iz!)(ha:a0!)(J:cr_)(hc:PE X c tc)
  (hm:iz_:=by with_unfolding_all rfl):PE X iA! sj_:=by
 intro O s Z H Q I h;refine Compare_chain (Gq b1! λv s1 ⟨x,H1,I1,r1,q1⟩=>chain_link (Gq f5_ λu s2 ⟨y,H2,I2,r2,q2⟩=>
  Gq mt! λd s3 ⟨z,H3,I3,r3,k,e,q3⟩=>?_)) hm
 subst e;cases r3;refine CA ?_;cases k with
 |false=>exact ite_ff ⟨ie!,H3,I3,rfl,q3⟩
 |true=>exact ite_tt (chain_last (Gq sk! λw' s4 ⟨z',H4,I4,r4,q4⟩=>c9 O s4 Z H4 y z' u w' Q I4 r2 r4 q4))
theorem b3w{op dz:CmpOp}{r r':R2}(ho:b6_)(c9:iz!)(ha:a0!)(J:cr_)(hc:PE X c tc)
  (hm:iz_:=by with_unfolding_all rfl):PT X iA! (c3m sj_):=by
 intro O s Z H Q I h;refine isTrue_chain (Gq b1! λv s1 ⟨x,H1,I1,r1,q1⟩=>test_link (Gq f5_ λu s2 ⟨y,H2,I2,r2,q2⟩=>
  Gq mt! λd s3 ⟨z,H3,I3,r3,k,e,q3⟩=>?_)) hm
 subst e;cases r3;refine CA ?_;cases k with
 |false=>
  obtain⟨k',e',q'⟩:=q3;cases e';exact ite_ff ⟨H3,I3,q'⟩
 |true=>
  refine ite_tt (test_last (Gq sk! λw' s4 ⟨z',H4,I4,r4,q4⟩=>Gq (c9 O s4 Z H4 y z' u w' _ I4 r2 r4 q4) λd' s5 ⟨z2,H5,I5,r5,k2,e2,q5⟩=>?_));subst e2;cases r5;exact CA ⟨H5,I5,q5⟩
noncomputable def d2w(K:W.Frag)(x:V)(H:Hp)(k:Bool):Prop:=
 match x with
 |.non=>k=false
 |.bl b=>k=b
 |.int i=>k=gr!
 |.str y=>cw!<=sizeLine/\k=((cw!:Int) != 0)
 |.byt y=>y.size<=sizeLine/\k=((y.size:Int) != 0)
 |.ref p=>(∃xs,Kw K H p xs/\k=! dN_)\/(∃xs,Lp K H p xs/\k=! dN_)\/∃kvs,H p=some dO!/\k=! mu!
 |_=>False
theorem a4c{κ:Type}{kvs:gr_}{vs:List ll!}(r:KV kvs vs):(!vs.isEmpty)=! mu!:=by cases r<;>rfl
theorem mW{xs:l_}{its:h!}(r:Ci xs its):(! mu_)=! dN_:=by cases r<;>simp
theorem eZ:(sizeLine:Nat)<2 ^ 63:=by rw[CI];decide
theorem c5b:d6h X (λx H Q=>∃k,d2w X.K x H k/\Q k H):=by
 intro O s Z H x v Q I rx h;obtain⟨k,e,q⟩:=h;have hl:=eZ;have hs:sizeLine=16777216:=CI;cases x with
 |non=>
  cases rx;have e':k=false:=e;subst e';exact truthy_none mv!
 |bl b=>
  cases rx;have e':k=b:=e;subst e';exact CA mv!
 |int i=>
  show"!A";have e':k=gr!:=e;subst e';exact PySem.P.truthy_int mv!
 |str y=>
  show"!A";obtain⟨hy,e'⟩:cw!<=sizeLine/\k=((cw!:Int) != 0):=e;subst e';exact PySem.P.truthy_str a! ⟨H,a0_,q⟩
 |byt y=>
  show"!A";obtain⟨hy,e'⟩:y.size<=sizeLine/\k=((y.size:Int) != 0):=e;subst e';exact W.truthy_bytes a! ⟨H,a0_,q⟩
 |ref p=>
  cases rx;have e':(∃xs,Kw X.K H p xs/\k=! dN_)\/(∃xs,Lp X.K H p xs/\k=! dN_)\/∃kvs,H p=some dO!/\k=! mu!:=e;rcases e' with⟨xs,L,e'⟩|⟨xs,L,e'⟩|⟨kvs,L,e'⟩
  .subst e';obtain⟨its,r,pl,hz⟩:=I.list L;have al:=aC!;exact wpAny_truthy_list pl.isList iA_ so!
  .subst e';obtain⟨its,r,pl,hz⟩:=I.tuple L;have al:=aC!;exact truthy_tuple pl iA_ so!
  .subst e';obtain⟨hz,hS,vs,r,m⟩:az!<=sizeLine/\(p==sysModules)=false/\∃vs,KV kvs vs/\s.heap.DictOf (mixKind X.prog X.w) p vs:=I.hok p _ L;have al:az!=bz!:=FC r;exact wpAny_truthy_dict hS m a! ⟨H,a0_,by rw[a4c r];exact q⟩
 |_=>exact(sp!).elim
theorem b3u(ha:a0!)(he:∀dm,isTrue a X.env dm=(do let v <-dm;standAt a.pos;holding [v] lQ!)):
  PT X a (λZ H Q=>ta Z H λx H'=>∃k,d2w X.K x H' k/\Q k H'):=by
 show"!H";exact isTrue_plain (Gq b1! λv s1 ⟨x,H1,I1,r1,q1⟩=>c5b O s1 Z H1 x v Q I1 r1 q1) (he _)
theorem a3d:Ml X eJ_ (λx y H Q=>∃i j,x=.str i/\y=.str j/\i.length+j.length<=sizeLine/\Q (.str (i++j)) H):=by intro O s Z H x y v u Q I rx ry h;obtain⟨i,j,rfl,rfl,hz,q⟩:=h;obtain⟨t,rfl⟩:=rx;obtain⟨t',rfl⟩:=ry;exact add_str (λt' tk=>⟨.str (i++j),H,a0_,K_,q⟩) hz
theorem aU{x:V}(r:Ci [x] us):∃u,us=[u]/\Ds x u:=by
 cases r with
 |cons r1 r2=>cases r2;exact⟨_,rfl,r1⟩
theorem a5h{x y:V}(r:Ci [x,y] us):∃u w',us=[u,w']/\Ds x u/\Ds y w':=by
 cases r with
 |cons r1 r2=>
  cases r2 with
  |cons r3 r4=>cases r4;exact⟨_,_,rfl,r1,r3⟩
theorem b8d:Ph X sq_ sr!:=by intro O s Z H xs us Q I r h;obtain⟨i,rfl,q⟩:=h;obtain⟨u,rfl,t,rfl⟩:=aU r;exact call_abs_int λu tk=>⟨.int iB!,H,a0_,K_,q⟩
theorem wA:Ph X a4! (λxs H Q=>∃i,xs=[bI!]/\mw_<1920/\Q mx! H):=by intro O s Z H xs us Q I r h;obtain⟨i,rfl,hz,q⟩:=h;obtain⟨u,rfl,t,rfl⟩:=aU r;exact PySem.P.str_of_int hz mx_
theorem b8b:Ph X ss_ st_:=by intro O s Z H xs us Q I r h;obtain⟨x,rfl,hz,q⟩:=h;obtain⟨u,rfl,t,rfl⟩:=aU r;exact ord_of_one hz il!
noncomputable def c8v(K:W.Frag)(x:V)(H:Hp)(n:Nat):Prop:=
 match x with
 |.str y=>cw!<=sizeLine/\n=cw!
 |.byt y=>y.size<=sizeLine/\n=y.size
 |.ref p=>(∃xs,Kw K H p xs/\n=k_)\/∃xs,Lp K H p xs/\n=k_
 |_=>False
theorem Ff:Ph X su! (λxs H Q=>∃x n,xs=[x]/\c8v X.K x H n/\Q eN! H):=by
 intro O s Z H xs us Q I r h;obtain⟨x,n,rfl,e,q⟩:=h;obtain⟨u,rfl,rx⟩:=aU r;have hl:=eZ;have hs:sizeLine=16777216:=CI;cases x with
 |str y=>
  show"!A";obtain⟨hy,e'⟩:cw!<=sizeLine/\n=cw!:=e;subst e';exact len_str a! il!
 |byt y=>
  show"!A";obtain⟨hy,e'⟩:y.size<=sizeLine/\n=y.size:=e;subst e';exact W.len_bytes a! il!
 |ref p=>
  cases rx;have e':(∃xs,Kw X.K H p xs/\n=k_)\/∃xs,Lp X.K H p xs/\n=k_:=e;rcases e' with⟨xs,L,e'⟩|⟨xs,L,e'⟩
  .subst e';obtain⟨its,r',pl,hz⟩:=I.list L;have al:=iC_;exact Calls.call_len_list pl.isList iA_ sv_
  .subst e';obtain⟨its,r',pl,hz⟩:=I.tuple L;have al:=iC_;exact len_tuple pl iA_ sv_
 |_=>exact(sp!).elim
end
end L2
namespace L2
open PySem PySem.Spec PyProof.Rows
structure a4z(h:Heap)(x dx C:Addr)(mA:A!):Prop where
 obj:h.get? x=some lm!
 ns:h.Ns1 dx mA
 ne:dx≠x
theorem b0m{h:Heap}{dx:Addr}{mA:A!}(n:h.Ns1 dx mA):∃od,h.get? dx=some od/\∀name,W.lookIn name od=some (mA name):=by
 obtain⟨o,es,ep,ho,hd,hk,_,hm⟩:=n;refine⟨o,ho,λname=>?_⟩;have e:=hm name;unfold nsFind findBy at e;rw[<-Array.find?_toList]at e;unfold W.lookIn;rw[hd];show"#0";split
 .rename_i y q;rw[q]at e;exact congrArg some e
 .rename_i q;rw[q]at e;have a:es.toList.any (·.refKey)=false:=by
   rw[List.any_eq_false];intro y hy;obtain⟨z,t,OZ⟩:=hk y (Array.mem_toList_iff.mp hy);simp[DictEntry.refKey,OZ]
  have a':¬es.toList.any (·.refKey)=true:=by rw[a];exact BC
  rw[AH a'];exact congrArg some e
theorem a4z.look{h:Heap}{x dx C:Addr}{mA:A!}(I:a4z h x dx C mA):∃od,W.InstAt h x lm! C (some od)/\∀name,W.lookIn name od=some (mA name):=
 let⟨od,ho,hl⟩:=b0m I.ns
 ⟨od,⟨I.obj,rfl,rfl,ho⟩,hl⟩
section
variable{prog:Program}{w:World}{A:Around}{E:Value->Shared->Prop}{s:Shared}{K:W.Frag}{x dx C f:Addr}{mA:Str->Option Value}{name:Str}{v:Value}
theorem c2b{expr:Bool}{Q:p_}(X:iD_)(I:my!)(hg:sy!)(hh:sy_)
  (ha:W.findIn K at! name=some none)(hv:mA name=some v)(PB:W.handedIn v=true)(h:Q v {s with toks:=s.toks+1}):
  wpAny n_ A (getAttr fS! name expr) Q E s:=by
 show"#=";exact W.get_value X ab (mz!).1 (W.findObj_own hh ha rfl (by rw[hl,hv])) PB h
theorem b6s{pl:dO_}{Q:sz_}(X:iD_)(I:my!)(hg:sy!)
  (hf:W.findIn K at! name=some eN_)(ht:mz_)(hv:mA name=none)(h:Q (.ref f,[.ref x]) s):
  wpAny n_ A (getMethod fS! name pl) Q E s:=by
 show"#=";exact W.method_fn X ab (mz!).1 (mz!).2 hf (FJ.mp ht) (by show(W.lookIn name od).map (·.isSome)=some false;rw[hl,hv];rfl) h
theorem b9n{ns:p!}{Q:cT!}(X:iD_)(I:my!)
  (hs:W.findIn K at! "__setattr__"=some sB_)(hp:W.plainOver K C=true)(ht:W.takerIn K C name=some none)(hh:sy_)
  (hw:PySem.Within mA ns)(hsz:sD_)
  (h:∀h',a4z h' x dx C (λy=>if y=name then some v else mA y)->Heap.SameBut dx s.heap h'->Q () {s with heap:=h',toks:=s.toks+2}):
  wpAny n_ A (setAttr fS! name v) Q E s:=by
 show"#=";refine W.set_plain X ab hs (W.osa_open (s:=mA_) (r:=none) X ab hp ht λb=>?_);obtain⟨cd,hc,wu⟩:=W.any_some hh;have L:s.heap.get? x=some ⟨.ref C,some dx,.plain,#[]⟩:=I.obj;refine AA (AC (AA (AA (wpAny_loadPart L (AA (W.Looks.here (s:=mA_) (W.looks_clsIn X hc) ?_))))));rw[wu];refine AC (a:=some dx) (AA (AC gs_));refine wpAny_nsSet1 (s:=mA_) I.ns λh' jw bm=>?_;obtain⟨oD,WJ,WK,wy,wz,PD⟩:=jw.count (PySem.Within.cons name v hw);refine AA (wpAny_lookBehind wy (by rw[wz];exact pastItsLine_dict (BN PD (by rw[AR];omega))) ?_);exact AC (h _ ⟨(bm.2 _ (AI I.ne)).trans I.obj,jw,I.ne⟩ bm)
theorem b5t{R:sE_}{kw:dP_}(X:iD_)(hm:sG!)
  (hi:sF_)(hf:W.typeIn K ah_=some (.type "function"))
  (h:codeAny n_ (A.under (.builtin "type.__call__" ⟨.ref C::vs,kw⟩)) (.call ah_ ⟨.ref ad!::vs,kw⟩) (W.InitBack ad! R)
   {s with heap:=(eO!).push iF_}):
  codeAny n_ A (.call at! ⟨vs,kw⟩) R s:=by
 obtain⟨hh,g,d,t,os⟩:=s;exact W.make_core (W.makes_of X hm) (W.looks_findIn X hi) (λself=>W.bind_fn X self hf) aH! h
end
noncomputable def Uy(f:Str)(v:V):List dy!->List dy!
 |[]=>[(f,v)]
 |(g,x)::r=>if g=f then(g,v)::r else(g,x)::Uy f v r
theorem gL(f g:Str)(v:V):∀fs:List dy!,(iG_).lookup g=if g=f then some v else fs.lookup g
 |[]=>by
  show List.lookup g [(f,v)]=_;by_cases h:g=f
  .have J:(g==f)=true:=FJ.mpr h;simp only[List.lookup,J,AN h]
  .have J:(g==f)=false:=EA.mpr h;simp only[List.lookup,J,AH h]
 |(k,x)::r=>by
  have ih:=gL f g v r;rw[mB_];by_cases hk:k=f
  .rw[a4_];by_cases h:g=k
   .have J:(g==k)=true:=FJ.mpr h;simp only[List.lookup,J,AN (h.trans hk)]
   .have J:(g==k)=false:=EA.mpr h;simp only[List.lookup,J,AH (λe:g=f=>h (e.trans hk.symm))]
  .rw[aE!];by_cases h:g=k
   .have J:(g==k)=true:=FJ.mpr h;simp only[List.lookup,J,AH (λe:g=f=>hk (h.symm.trans e))]
   .have J:(g==k)=false:=EA.mpr h;simp only[List.lookup,J];exact ih
theorem fA(f:Str)(v:V):∀fs:List dy!,f∈(iG_).map a_/\∀g,g∈fs.map a_->g∈(iG_).map a_
 |[]=>⟨by simp[Uy],λg h=>by simp at h⟩
 |(k,x)::r=>by
  obtain⟨i1,i2⟩:=fA f v r;rw[mB_];by_cases hk:k=f
  .rw[a4_];subst hk;exact⟨I!,λg h=>by simpa using h⟩
  .rw[aE!];refine⟨?_,λg h=>?_⟩
   .rw[AK];exact AE _ i1
   .rw[AK]at h ⊢;rcases AD.mp h with e|e
    .exact AD.mpr (.inl e)
    .exact AE _ (i2 g e)
theorem gN(f:Str)(v:V):∀fs:List dy!,(iG_).length<=bs!+1
 |[]=>by simp[Uy]
 |(k,x)::r=>by
  have ih:=gN f v r;rw[mB_];by_cases hk:k=f
  .rw[a4_,AR,AR];omega
  .rw[aE!,AR,AR];omega
theorem dI.some_of{v:V}{o:mD!}(r:dI dB! o):∃u,o=some u/\Ds v u:=by
 cases o with
 |none=>exact(iH_).elim
 |some u=>exact⟨u,rfl,r⟩
theorem dI.none_of{o:mD!}(r:dI none o):o=none:=by
 cases o with
 |none=>rfl
 |some u=>exact(iH_).elim
theorem b0t{v:V}{u:Value}(r:bu_):W.handedIn u=true:=by
 cases v with
 |non=>cases (show u=cP_ from r);rfl
 |bl b=>cases (show u=Value.bool b from r);rfl
 |int i=>obtain⟨t,e⟩:=sJ_;cases e;rfl
 |str x=>obtain⟨t,e⟩:=sK!;cases e;rfl
 |byt b=>obtain⟨t,e⟩:=(show∃t,u=Value.bytes b t from r);cases e;rfl
 |flt b=>obtain⟨t,e⟩:=(show∃t,u=Value.float b t from r);cases e;rfl
 |ref a=>cases (show u=Value.ref a from r);rfl
 |ty n=>cases (show u=Value.type n from r);rfl
section
variable{P:Program}{w:World}{H H':Hp}{h h':Heap}{a C dx:Addr}{fs uv:List (Str×V)}
theorem vI(hok:bs_)(e:iI!):∃mA,a4z h a dx C mA/\ql_/\PySem.Within mA m5!/\bs!<=1000/\H dx=some fR_:=by obtain⟨d,z,ne,ob,mA,n,r,q⟩:=(show Ke P w H h a eP! from hok a _ e);exact⟨mA,⟨ob,n,ne⟩,r,q,z,d⟩
end
structure Cls(K:W.Frag)(C:Addr):Prop where
 pg:W.plainGet K C Str.empty=true
 hd:W.hasDictIn K C=true
 po:W.plainOver K C=true
 sa:W.findIn K at! "__setattr__"=some sB_
theorem Cls.get{K:W.Frag}{C:Addr}(c:Cls K C)(f:Str):W.plainGet K C f=true:=c.pg
noncomputable def Ir(K:W.Frag)(C:Addr)(f:Str):Prop:=W.findIn K at! f=some none
theorem Ir.taker{K:W.Frag}{C:Addr}{f:Str}(n:Ir K C f):W.takerIn K C f=some none:=by unfold W.takerIn;rw[show W.findIn K at! f=some none from n];rfl
structure b1g(K:W.Frag)(C:Addr)(m:Str)(f:Addr):Prop where
 at_:W.findIn K at! m=some eN_
 fn:W.isFn K ah_=true
 kp:W.keepIn K ah_=true
section
variable{X:Cx}{O:List (Addr×Obj)}{Z:St}{H:Hp}{s:Shared}{a C dx:Addr}{fs:List (Str×V)}{f:Str}{v:V}{A:Around}{E:Value->Shared->Prop}
theorem a4f{b:Bool}{Q:p_}(I:d!)(e:iI!)(c:dQ!)(n:Ir X.K C f)(l:fs.lookup f=some v)
  (h:∀u s',Inv X O Z H s'->Ds v u->Q u s'):wpAny e_ A (getAttr ac! f b) Q E s:=by
 obtain⟨mA,l8,r,_,_,_⟩:=vI I.hok e;obtain⟨u,hu,ru⟩:=dI.some_of (v:=v) (o:=mA f) (by rw[<-l];exact r f);exact c2b I.kIn l8 (c.get f) c.hd n hu (b0t ru) (h u _ mE! ru)
theorem aG{m:Str}{pl:dO_}{Q:sz_}(I:d!)(e:iI!)(c:dQ!)(k:b1g X.K C m g)(l:fs.lookup m=none)
  (h:Q (.ref g,bg!) s):wpAny e_ A (getMethod ac! m pl) Q E s:=by
 obtain⟨mA,l8,r,_,_,_⟩:=vI I.hok e;have hn:mA m=none:=dI.none_of (by rw[<-l];exact r m);exact b6s I.kIn l8 (c.get m) k.at_ k.fn hn h
theorem a2d{y:V}{u:Value}{Q:cT!}(I:d!)(e:iI!)(c:dQ!)(n:Ir X.K C f)(hl:bs!<1000)(ry:Ds y u)
  (h:∀s',Inv X O Z (upd H a sN_) s'->Q () s'):wpAny e_ A (setAttr ac! f u) Q E s:=by
 obtain⟨mA,l8,r,wi,_,ho⟩:=vI I.hok e;have hz:(m5!).length<=sizeLine:=by rw[AW,CI];omega
 refine b9n I.kIn l8 c.sa c.po n.taker c.hd wi hz λh' O' sb=>h _ ?_;have hd:∃o,h'.get? dx=some o:=let⟨o,_,_,e',_⟩:=O'.ns;⟨o,e'⟩;refine I.write (x:=a) (e:=dx) sP! (.inr ho) (λb q J z=>(sb.2 b J).trans z) hd ?_;refine⟨by rw[Bt l8.ne];exact ho,?_,l8.ne,O'.obj,_,O'.ns,λg=>?_,λg hg=>?_⟩
 .have:=gN f y fs;omega
 .show dI ((Uy f y fs).lookup g) sQ_;rw[gL];by_cases q:g=f
  .rw[AN q,AN q];exact ry
  .rw[AH q,AH q];exact r g
 .by_cases q:g=f
  .rw[q];exact(fA f y fs).1
  .refine(fA f y fs).2 g (wi g λz=>hg ?_);show sQ_=none;rw[AH q];exact z
theorem Inv.made(I:d!):Inv X O Z (upd (upd H s.heap.objs.size (.own ad!)) ad! (.ins C s.heap.objs.size []))
  {s with heap:=(eO!).push iF_}:=by
 have e1:(eO!).get? q!=some iG!:=BD s.heap rfl;have e2:((eO!).push iF_).get? ad!=some iF_:=by
  have:=BD eO! (o:=W.instObj C q!) rfl;rwa[GF]at this
 have e3:(eO!).Ns s.heap.objs.size (λ_=>none):=⟨iG!,#[],_,e1,rfl,(λe he=>absurd he d_),gt_⟩;have I1:=I.laid (a:=q!) (o:=.own ad!) (h':=s.heap.push iG!) (t':=s.toks) sS! x_ ⟨_,e1⟩;refine I1.laid (a:=q!+1) (o:=.ins C s.heap.objs.size []) (t':=s.toks) sS! (GX (GF _ _)) ?_;have ne:q!≠q!+1:=BV (HP _);refine⟨by rw[Bt ne,Dq],CG _,ne,e2,λ_=>none,(Heap.Ns1.of_empty e3).at λo q=>AG _ q,λ_=>iJ_,λy hy=>absurd rfl hy⟩
theorem c3c{prog:Program}{w:World}{e:Expr}{f:Str}{pos:Pos}{s:Shared}{Q:p_}(J:attributeBase e f env (eval e env)=eval e env)
  (h:wpAny n_ A (eval e env) (λo ai=>wpAny n_ A (getAttr o f true) Q E ai) E s):wpAny n_ A (eval sU! env) Q E s:=
 Attribute_any_ h (by rw[arm_eval_Attribute,J])
end
noncomputable def d4t(K:W.Frag)(ta:TE)(f:Str):TE:=λZ H Q=>ta Z H λx H1=>∃a C dx fs v,x=.ref a/\H1 a=some eP!/\Cls K C/\Ir K C f/\fs.lookup f=some v/\Q v H1
noncomputable def d4y(K:W.Frag)(ta tv:TE)(f:Str):TS:=λD Z H=>tv Z H λy H1=>ta Z H1 λx H2=>∃a C dx fs,x=.ref a/\H2 a=some eP!/\Cls K C/\Ir K C f/\bs!<1000/\
 D.nx Z (upd H2 a sN_)
section
variable{X:Cx}{o e value:Expr}{f:Str}{pos ic WL:Pos}{ta tv:TE}
theorem c6c(he:PE X e ta)(J:attributeBase e f X.env ez!=eval e X.env):PE X sU! (d4t X.K ta f):=by intro O s Z H Q I h;refine c3c J (Gq c0_ λu s1 ⟨x,H1,I1,rx,a,C,dx,fs,v,ex,ea,c,n,l,q⟩=>?_);subst ex;obtain rfl:u=Value.ref a:=rx;exact a4f I1 ea c n l λu' s2 I2 ru=>⟨v,H1,I2,ru,q⟩
theorem c5x(ha:mF!)(hv:PE X value tv)(hs:swapsWith value (some (.Attribute o f ic)) pos.line X.env=pure false):PS X (.Assign [.Attribute o f ic] value pos) (d4y X.K ta tv f):=by intro O s Z H D I h;refine plainObj_wpAny_Assign_Attribute (Gq (hv O s Z H _ I h) λu s1 ⟨y,H1,I1,ry,q⟩=>Gq (ha O s1 Z H1 _ I1 q) λov s2 ⟨x,H2,I2,rx,a,C,dx,fs,ex,ea,c,n,l,q2⟩=>?_) hs;subst ex;obtain rfl:ov=Value.ref a:=rx;exact a2d I2 ea c n l ry λs3 I3=>⟨Z,_,I3,q2⟩
theorem c4g{pl:dO_}{m:Str}{ag:Pos}{O:n!}{s:Shared}{Z:St}{H:Hp}{Q:p_}{te:TE}(he:ct!)(I:d!)
  (h:te Z H λx H1=>∃a C dx fs g,x=.ref a/\H1 a=some eP!/\Cls X.K C/\b1g X.K C m g/\fs.lookup m=none/\
   ∀s1,Inv X O Z H1 s1->wpAny e_ X.A (callWith pos (.ref g) bg! sW! eP_) Q X.xe s1)
  (ht:eval sX! X.env=(do
   let ov <-eval e X.env
   standAt gv_
   let(f,first) <-holding [ov] gw!
   callWith pos f first sW! eP_)):
  wpAny e_ X.A (eval sX! X.env) Q X.xe s:=by
 refine W.methodCall_KW (pl:=pl) (Gq c0_ λu s1 ⟨x,H1,I1,rx,a,C,dx,fs,g,ex,ea,c,k,l,q⟩=>?_) ht;subst ex;obtain rfl:u=Value.ref a:=rx;exact aG I1 ea c k l (q s1 I1)
end
end L2
namespace L2
open PySem PySem.Spec PyProof.Rows
structure Ax(k:Nat)(A:Around):Prop where
 hd:A.handled=none
 dp:A.depth+3*k+5<recursionLimit
 un:A.units+16*k+200<cLine
theorem Ax.mono{j k:Nat}{A:Around}(r:gw_)(h:j<=k):Ax j A:=⟨r.hd,by have:=r.dp;omega,by have:=r.un;omega⟩
theorem Ax.deeper{k:Nat}{A:Around}(r:Ax S! A)(env:Env):Ax k (A.deeper env):=
 ⟨r.hd,by have:=r.dp;show A.depth+1+3*k+5<_;omega,by have:=r.un;show A.units+3+16*k+200<_;omega⟩
theorem Ax.in1{k:Nat}{A:Around}(r:Ax S! A):Ax k A.in1:=
 ⟨r.hd,by have:=r.dp;show A.depth+3*k+5<_;omega,by have:=r.un;show A.units+1+16*k+200<_;omega⟩
theorem a3u{A:Around}{C:Addr}{kw:dP_}:(iL_).depth=A.depth+1:=by first|rfl|simp[Around.under,Code.weight,Code.isCreation,Code.isGuard,Code.isCaller,Code.frames,Code.isFrame,guardIds]
theorem a3t{A:Around}{C:Addr}{kw:dP_}:(iL_).units=A.units+1:=by first|rfl|simp[Around.under,Code.cUnits,Code.frames,Code.isFrame]
theorem Ax.make{k:Nat}{A:Around}(r:Ax S! A)(C:Addr)(us:h!)(kw:dP_):Ax k iL_:=
 ⟨r.hd,by have:=r.dp;rw[a3u];omega,by have:=r.un;rw[a3t];omega⟩
theorem Ax.depth{k:Nat}{A:Around}(r:gw_):A.depth<recursionLimit:=by have:=r.dp;omega
theorem Ax.units{k:Nat}{A:Around}(r:gw_):A.units+64<cLine:=by have:=r.un;omega
theorem Ax.units0{k:Nat}{A:Around}(r:gw_):A.units<cLine:=by have:=r.un;omega
noncomputable def c5f:TA:=λ_ H Q=>Q [] H
noncomputable def c9z(ta:TE)(tr:TA):TA:=λZ H Q=>ta Z H λx H1=>tr Z H1 λxs H2=>Q (x::xs) H2
section
variable{X:Cx}{e:Expr}{es:List Expr}{te:TE}{t:TA}{pos:Pos}
theorem Mx:PA X [] c5f:=λ_ _ _ _ H Q I h=>GP ⟨[],H,I,.nil,h⟩
theorem Hq(ha:ct!)(hr:gx!)(hs:al_:=by rfl):PA X aI_ (c9z te t):=by intro pos O s Z H Q I h;rw[hs];show wpAny _ _ (spliced (eQ!::backTo pos lM_)) _ _ s;refine EX (Gq b1! λu s1 ⟨x,H1,I1,r1,q1⟩=>?_);exact Gq (hr pos O s1 Z H1 _ I1 q1) λus s2 ⟨xs,H2,I2,r2,q2⟩=>⟨x::xs,H2,I2,.cons r1 r2,q2⟩
noncomputable def d4l(t:TA):TE:=λZ H Q=>t Z H λxs H1=>k_<=sizeLine/\∀p,H1 p=none->Q b7! (upd H1 p bc!)
noncomputable def d4q(t:TA):TE:=λZ H Q=>t Z H λxs H1=>k_<=sizeLine/\∀p,H1 p=none->Q b7! (upd H1 p L!)
theorem b4i {x1}(h:gx!):PE X s0_ (d4l t):=by intro O s Z H Q I hq;refine wpAny_Tuple_spliced s1!;have hf:H1 D!=none:=I1.hok.fresh x_;refine⟨.ref D!,upd H1 s1.heap.objs.size bc!,s1_,rfl,q _ hf⟩;exact⟨z,us,r,⟨_,dK!,rfl,_,rfl⟩⟩
theorem lI(h:gx!):PE X iM_ (d4q t):=by intro O s Z H Q I hq;refine wpAny_List_spliced s1!;have hf:H1 D!=none:=I1.hok.fresh x_;refine⟨.ref D!,upd H1 s1.heap.objs.size L!,s1_,rfl,q _ hf⟩;exact⟨z,us,0,r,dK!⟩
end
abbrev Sp:=List V->Hp->VK->XK->Prop
abbrev CXT:=List Env->Hp->Shared->XK->Value->Shared->Prop
structure nZ(P:Program)(w:World)(K:W.Frag)(mg:A!)(base:Heap)(A:Around)(outer:aq_)(s:Shared)(H:Hp):Prop where
 frames:A.frames=some outer
 mod:Mod K mg base
 bs:∀b o,base.get? b=some o->s.heap.get? b=some o/\H b=none
 bsz:base.objs.size<=q!
 funs:s.heap.FunFrames base outer
 frf:∀b∈frs outer,H b=none
 hok:dJ P w H s.heap
 bare:AllBare s.gens
noncomputable def CE(outer:aq_)(P:Program)(w:World)(H:Hp)(s:Shared)(Q:VK)(u:Value)(s':Shared):Prop:=
 ∃v H',s'.os=s.os/\AllBare s'.gens/\Un (frs outer) [] H H' s.heap s'.heap/\dJ P w H' s'.heap/\Ds v u/\Q v H'
noncomputable def CR(CX:CXT)(outer:aq_)(P:Program)(w:World)(H:Hp)(s:Shared)(Q:VK)(E:XK)(r:Result)(s':Shared):Prop:=
 match r with
 |.ok (.ret u)=>CE outer P w H s Q u s'
 |.ok _=>False
 |.error e=>CX outer H s E e s'
structure Ks(P:Program)(w:World)(K:W.Frag)(mg:A!)(base:Heap)(CX:CXT)(k:Nat)(f:Addr)(fd:FuncData)(ps:p!)(sp:Sp):Prop where
 len:∀vs H Q E,sp vs H Q E->bz!=S_
 run:∀(A:Around) (outer:aq_) (s:Shared) (H:Hp) (args:Args) (us:h!) (vs:l_) (Q:VK) (E:XK),Ax k A->nZ P w K mg base A outer s H->BindsTo s fd args c4!->Ci vs us->sp vs H Q E->
  codeAny J! A (.call ah_ args) (CR CX outer P w H s Q E) s
theorem Ks.mono{P:Program}{w:World}{K:W.Frag}{mg:A!}{base:Heap}{CX:CXT}{j k:Nat}{f:Addr}{fd:FuncData}{ps:p!}{sp:Sp}(F:Ks P w K mg base CX j f fd ps sp)(h:j<=k):
  Ks P w K mg base CX k f fd ps sp:=⟨F.len,λA outer s H args us vs Q E hr=>F.run A outer s H args us vs Q E (hr.mono h)⟩
theorem Ks.imp{P:Program}{w:World}{K:W.Frag}{mg:A!}{base:Heap}{CX:CXT}{k:Nat}{f:Addr}{fd:FuncData}{ps:p!}{sp KD:Sp}(F:Ks P w K mg base CX k f fd ps sp)
  (h:∀vs H Q E,KD vs H Q E->sp vs H Q E):Ks P w K mg base CX k f fd ps KD:=
 ⟨λvs H Q E q=>F.len vs H Q E (h _ _ _ _ q),λA outer s H args us vs Q E hr he J hv hs=>F.run A outer s H args us vs Q E hr he J hv (h _ _ _ _ hs)⟩
theorem nZ.make{P:Program}{w:World}{K:W.Frag}{mg:A!}{base:Heap}{A:Around}{outer:aq_}{s:Shared}{H:Hp}(e:mH!)(C:Addr)(us:h!)(kw:dP_):
  nZ P w K mg base iL_ outer s H:=⟨by first|exact e.frames|(simpa[Around.under,Code.envs,Code.isFrame,pushEnvs]using e.frames),e.mod,e.bs,e.bsz,e.funs,e.frf,e.hok,e.bare⟩
theorem nZ.in1{P:Program}{w:World}{K:W.Frag}{mg:A!}{base:Heap}{A:Around}{outer:aq_}{s:Shared}{H:Hp}(e:mH!):
  nZ P w K mg base A.in1 outer s H:=⟨e.frames,e.mod,e.bs,e.bsz,e.funs,e.frf,e.hok,e.bare⟩
section
variable{X:Cx}{O:List (Addr×Obj)}{Z:St}{H:Hp}{s s':Shared}
theorem Inv.env0(I:d!):nZ X.prog X.w X.K X.mg X.base X.A X.stack s H:=
 ⟨I.ok.frames,I.ok.mod,I.bs,BN I.ok.bsz I.sz,I.stack,I.stkFree,I.hok,I.bare⟩
theorem Inv.after{Q:VK}{u:Value}(I:d!)(h:CE X.stack X.prog X.w H s Q u s'):EP X O Z Q u s':=by obtain⟨v,H',os,bare,un,hok,r,q⟩:=h;obtain⟨hh,g,d,t,PF⟩:=s';obtain rfl:PF=s.os:=os;exact⟨v,H',I.call (h':=hh) (g':=g) (d':=d) (t':=t) (ch:=[]) un hok bare (λb z=>absurd z d_),r,q⟩
end
noncomputable def d0a(sp:Sp)(dvs:l_)(E:XK)(t:TA):TE:=λZ H Q=>t Z H λvs H1=>sp c4_ H1 Q E
noncomputable def c3n(C:Addr)(m:Str)(sp:Sp)(dvs:l_)(E:XK)(ta:TE)(t:TA):TE:=λZ H Q=>ta Z H λx H1=>∃a dx fs,x=.ref a/\H1 a=some eP!/\fs.lookup m=none/\
 t Z H1 λvs H2=>sp (x::c4_) H2 Q E
noncomputable def c3o(C:Addr)(sp:Sp)(dvs:l_)(E:XK)(t:TA):TE:=λZ H Q=>t Z H λvs H1=>∀x dx,H1 x=none->H1 dx=none->dx≠x->
 sp (.ref x::c4_) mI_ s5_ E
noncomputable def Jx(K:W.Frag)(fd:FuncData)(ps:p!)(ds:h!):Prop:=
 ∀(s:Shared) (us:h!),K.In s.heap->(eR!).length=S_->BindsTo s fd c5! (ps.zip eR!)
theorem Jx.all{K:W.Frag}{fd:FuncData}{ps:p!}(h:∀us:List Value,ap_=S_->bindArgs fd c5!=pure c4!):Jx K fd ps []:=λs us _ hl=>by
 rw[BL]at hl ⊢;exact .of_eq (h us hl)
noncomputable def Xm(CX:CXT)(X:Cx)(E:XK):Prop:=∀(O:n!) (Z:St) (H:Hp) (s:Shared) (e:Value) (s':Shared),Inv X O Z H s->CX X.stack H s E e s'->X.xe e s'
section
variable{X:Cx}{CX:CXT}{k:Nat}{f C:Addr}{fd:FuncData}{ps:List Str}{sp:Sp}{dvs:List V}{ds:List Value}{E:XK}{x m:Str}{p pos ag:Pos}{e o:Expr}{es:List Expr}{ta:TE}{t:TA}
theorem sX{O:n!}{Z:St}{H:Hp}{s:Shared}{Q:VK}(F:dR!)(hr:b7_)(J:dR_)(hd:dS!)(L:dS_)
  (I:d!)(r:ey_)(h:sp c4_ H Q E):wpAny e_ X.A (call ah_ us) aH_ X.xe s:=by
 have r2:Ci c4_ eR!:=r.append hd;have hl:(eR!).length=S_:=by rw[<-r2.length];exact F.len _ _ _ _ h
 refine wpAny_call (IS (F.run X.A X.stack s H c5! eR! c4_ Q E hr I.env0 (J s us I.kIn hl) r2 h) λr s' hq=>?_);cases r with
 |error e=>exact L O Z H s e s' I hq
 |ok fl=>
  cases fl with
  |ret u=>exact I.after hq
  |next=>exact False.elim hq
  |brk=>exact False.elim hq
  |cont=>exact False.elim hq
theorem a6t(F:dR!)(hr:b7_)(hg:R_)(hm:X.mg x=some ah_)(hk:W.keepIn X.K ah_=true)(J:dR_)(hd:dS!)(L:dS_)
  (ha:eR_)(bc:G!:=by decide)(he:al_:=by rfl)(ax:aR_:=by rfl):
  PE X bh! (d0a sp dvs E t):=by
 show"!H";refine EU mJ!;refine W.callWith_K (h₀:=X.base) I.ok.mod.kin hk s7_ he ax;exact sX F hr J hd L I1 r q
theorem c0r{pl:dO_}(he:mF!)(c:dQ!)(hm:b1g X.K C m f)(F:dR!)(hr:b7_)(J:dR_)(hd:dS!)(L:dS_)(ha:eR_)
  (bx:al_:=by rfl)(ax:aR_:=by rfl)
  (ht:eval iO! X.env=(do
   let ov <-eval o X.env
   standAt gv_
   let(f,first) <-holding [ov] gw!
   callWith pos f first s9_ eP_):=by rfl):
  PE X iO! (c3n C m sp dvs E ta t):=by
 show"!=";refine W.callWith_K (first:=bg!) (h₀:=X.base) I.ok.mod.kin hm.kp (Gq (ha pos O s1 Z H1 _ I1 q) λus s2 ⟨vs,H2,I2,r,q2⟩=>tb!) bx ax;exact sX (us:=.ref a::us) (vs:=.ref a::vs) F hr J hd L I2 (.cons rfl r) q2
theorem b4m{pl:dO_}(he:mF!)(c:dQ!)(hm:b1g X.K C m f)(F:dR!)(hr:b7_)(J:dR_)(hd:dS!)(L:dS_)
  (ht:eval iO_ X.env=(do
   let ov <-eval o X.env
   standAt gv_
   let(f,first) <-holding [ov] gw!
   callWith pos f first mK! eP_):=by rfl):
  PE X iO_ (c3n C m sp dvs E ta c5f):=by
 show"!=";exact W.callWith_K0 (first:=bg!) I1.kIn hm.kp (sX (us:=bg!) (vs:=bg!) F hr J hd L I1 tc_ q)
structure Mk(K:W.Frag)(C f:Addr):Prop where
 makes:W.makesIn K C=true
 init:W.findIn K at! "__init__"=some eN_
 fn:W.isFn K ah_=true
 kp:W.keepIn K at!=true
theorem xL{O:n!}{Z:St}{H:Hp}{s:Shared}{Q:VK}(M:mK_)(F:dR!)(hr:gx_)(J:dR_)(hd:dS!)
  (L:dS_)(I:d!)(r:ey_)
  (h:∀x dx,H x=none->H dx=none->dx≠x->sp (.ref x::c4_) (upd (upd H dx hX!) x mI!) s5_ E):
  wpAny e_ X.A (call at! us) aH_ X.xe s:=by
 have hq:=h ad! s.heap.objs.size tf_ gy! (BV (HP _));have I2:=Inv.made (C:=C) I;have r2:Ci (V.ref ad!::c4_) tf!:=.cons rfl (r.append hd);have hl:(Value.ref ad!::us++ds).length=S_:=by
  have e:=r2.length;rw[F.len _ _ _ _ hq]at e;exact e.symm
 refine wpAny_call (b5t (f:=f) I.kIn M.makes M.init (FJ.mp M.fn) (IS (F.run _ X.stack _ _ ⟨Value.ref ad!::us,[]⟩ tf! _ _ E (hr.make C us [])
  (I2.env0.make C us []) (J _ (Value.ref ad!::us) I2.kIn hl) r2 hq) λr s' a7=>?_))
 cases r with
 |error e=>exact L O Z _ _ e s' I2 a7
 |ok fl=>
  cases fl with
  |ret u=>
   obtain⟨v,H',I3,rv,ev,q3⟩:=I2.after a7;subst ev;exact⟨rv,⟨V.ref ad!,H',I3,rfl,q3⟩⟩
  |next=>exact False.elim a7
  |brk=>exact False.elim a7
  |cont=>exact False.elim a7
theorem c0s(M:mK_)(F:dR!)(hr:gx_)(hg:R_)(hm:th_)(J:dR_)(hd:dS!)(L:dS_)
  (ha:eR_)(bc:G!:=by decide)(he:al_:=by rfl)(ax:aR_:=by rfl):
  PE X bh! (c3o C sp dvs E t):=by
 show"!H";refine EU mJ!;refine W.callWith_K (h₀:=X.base) I.ok.mod.kin M.kp s7_ he ax;exact xL M F hr J hd L I1 r q
theorem b4n(M:mK_)(F:dR!)(hr:gx_)(hg:R_)(hm:th_)(J:dR_)(hd:dS!)(L:dS_)
  (bc:G!:=by decide):PE X ti! (c3o C sp dvs E c5f):=by
 show"!H";refine EU mJ!;exact W.callWith_K0 I.kIn M.kp (xL (us:=[]) M F hr J hd L I .nil h)
end
structure As(N P:p!)(sc:Scope):Prop where
 kind:sc.kind=.function
 co:sc.isCoroutine=false
 gen:sc.isGenerator=false
 nd:N.Nodup
 pre:N.take P.length=P
 par:∀x∈P,sc.names.lookup x=some .local\/sc.names.lookup x=some .cell
 nofree:∀y∈sc.names,y.2≠.free
theorem rZ{kindOf:iP!}{x:Str}:∀{binds:dP_} {m:A!},tk!->bindL kindOf binds m x=m x
 |[],_,_=>rfl
 |(n,v)::r,m,h=>by
  unfold bindL;rw[rZ λw hw=>h w (AE _ hw)];split
  .have:x≠n:=by rintro rfl;exact h v AM
   simp[this]
  .rfl
theorem sB{kindOf:iP!}{x:Str}:∀{binds:dP_} {m:A!},tk!->bindC kindOf binds m x=m x
 |[],_,_=>rfl
 |(n,v)::r,m,h=>by
  unfold bindC;rw[sB λw hw=>h w (AE _ hw)];split
  .rfl
  .have:x≠n:=by rintro rfl;exact h v AM
   simp[this]
theorem sA{kindOf:iP!}{x:Str}{v:Value}:∀{P:p!} {vs:h!} {i:Nat} {m:A!},P.Nodup->P[i]?=some x->vs[i]?=some v->kindOf x=some .local->
  bindL kindOf (P.zip vs) m x=some v
 |[],_,_,_,_,h,_,_=>by simp at h
 |_::_,[],_,_,_,_,h,_=>by simp at h
 |p::P,w::vs,0,m,nd,B,Y,hk=>by
  simp at B Y;subst B;subst Y;show bindL kindOf iP_ m p=_;unfold bindL;rw[rZ λv hv=>(iQ!).1 (JL hv).1,a4_];simp
 |p::P,w::vs,i+1,m,nd,B,Y,hk=>by
  show bindL kindOf iP_ m x=_;unfold bindL;exact sA (i:=i) (iQ!).2 tl_ tm! hk
theorem sC{kindOf:iP!}{x:Str}{v:Value}:∀{P:p!} {vs:h!} {i:Nat} {m:A!},P.Nodup->P[i]?=some x->vs[i]?=some v->kindOf x≠some .local->
  bindC kindOf (P.zip vs) m x=some v
 |[],_,_,_,_,h,_,_=>by simp at h
 |_::_,[],_,_,_,_,h,_=>by simp at h
 |p::P,w::vs,0,m,nd,B,Y,hk=>by
  simp at B Y;subst B;subst Y;show bindC kindOf iP_ m p=_;unfold bindC;rw[sB λv hv=>(iQ!).1 (JL hv).1,aE!];simp
 |p::P,w::vs,i+1,m,nd,B,Y,hk=>by
  show bindC kindOf iP_ m x=_;unfold bindC;exact sC (i:=i) (iQ!).2 tl_ tm! hk
noncomputable def Ys(N:p!)(vs:l_):St:=vs.map some++List.replicate (iQ_ - bz!) none
noncomputable def fN(CX:CXT)(P:Program)(w:World)(K:W.Frag)(mg:A!)(base:Heap)(N:p!)(qual:Str)(scope:Scope)(f:Addr)(cd:Value)(A:Around)(outer:aq_)(s:Shared)(H:Hp)(E:XK):Cx where
 prog:=P
 w:=w
 K:=K
 mg:=mg
 base:=base
 A:=A.deeper gz!
 N:=N
 s₀:=s
 H₀:=H
 env:=envOfC qual scope s.heap.objs.size f cd
 outer:=outer
 stack:=envOfC qual scope s.heap.objs.size f cd::outer
 ex:=[]
 calm:=true
 fn:=λ_=>true
 pn:=[]
 xe:=λe s'=>wpAny J! (A.deeper gz!) (leaving gz! e) (λ_ w9=>CX outer H s E e w9) (λe' w9=>CX outer H s E e' w9) s'
theorem a0x{sc:Scope}{n:Nat}{x:Str}(h:sc.names.lookup x=some .cell):∃c,(cellsFrom n sc.names []).lookup x=some c:=by have q:=W.cellsFrom_some sc.names n [] if!;exact HH.mp q
theorem b0q{CX:CXT}{P:Program}{w:World}{K:W.Frag}{mg:A!}{base:Heap}{ps:p!}{scope:Scope}{f:Addr}{A:Around}{outer:aq_}{s:Shared}{H:Hp}{E:XK}{vs:l_}
  (S:As N ps scope)(hd:eT_)(e0:mH!)(hl:bz!=S_)(r:ey_)
  (x:InCallC s s.heap.objs.size (bindL (gz!).kindOf c4! λ_=>none) tp_ (bindC (gz!).kindOf c4! λ_=>none) s1):
  Inv tr! [] gz_ H s1:=by
 have ax:S_<=iQ_:=by have:=congrArg List.length S.pre;rw[HQ]at this;omega
 obtain⟨B,tk,rfl,hk⟩:=x.done;have qm:∀b:Addr,b∉(tr!).ex:=λb z=>absurd ts! d_;refine⟨⟨e0.mod,S.kind,rfl,rfl,BB _,λy z c B Y=>?_,λy hy=>?_,λy c _ h=>?_,λ_=>hd,Around.frames_deeper e0.frames,.inr bK_,ts_,e0.bs,e0.bsz,λb _ _=>qm b,ts_,e0.funs,e0.frf⟩,
  rfl,e0.bare,Un.kept hk,⟨_,x.toInCall.ns,λi y v B Y h3=>?_⟩,λy c h=>⟨_,x.cell y c h⟩,e0.hok.fresh x_,λy c h=>?_,λp hp=>absurd (show p∈([]:List ew!)from hp) d_,e0.hok.kept hk,?_⟩
 .exact name_of_addr x.apart (EB B) (EB Y)
 .have hy:scope.names.lookup y=some .cell\/scope.names.lookup y=some .free:=hy;rcases hy with hy|hy
  .exact a0x hy
  .exact absurd rfl (S.nofree _ (EB hy))
 .exact FW tu!
 .have hi:i<bz!:=by
   unfold Ys at Y;by_cases hi:i<bz!
   .exact hi
   .rw[eU!]at Y;rw[GB]at Y;split at Y<;>cases Y
  have ha:vs[i]?=some v:=by
   unfold Ys at Y;rw[CV gA!,BS]at Y;cases e:vs[i]? with
   |none=>rw[e]at Y;cases Y
   |some a=>rw[e]at Y;cases Y;rfl
  obtain⟨u,hu,rv⟩:=r.get ha;have hp:ps[i]?=some y:=by
   rw[<-S.pre,List.getElem?_take_of_lt a!];exact B
  have KF:ps.Nodup:=by rw[<-S.pre];exact S.nd.sublist (List.take_sublist _ _)
  refine⟨u,rv,?_⟩;rcases S.par y (GO hp)with k|k
  .exact .inl ⟨k,sA KF hp hu k⟩
  .obtain⟨c,e⟩:=a0x (n:=q!+1) k;refine .inr ⟨.inl k,c,e,?_⟩;have q:=x.cell y c e;rw[sC KF hp hu (by show scope.names.lookup y≠_;rw[k];decide)]at q;exact q
 .exact e0.hok.fresh (FW tu!)
 .unfold Ys;show _=iQ_;rw[AY,AW,FG];omega
theorem d2g{CX:CXT}{P:Program}{w:World}{K:W.Frag}{mg:A!}{base:Heap}{k:Nat}{f:Addr}{name:Str}{params:Arguments}{body:b0_}{kV:Value}{an od:a5!}
  {dt:b8!}{ps:p!}{sp:Sp}(lk:K.lookup f=some ⟨oc,od,.func tw!,dt⟩)(bv:iS_)(S:As N ps scope)
  (len:tx_)
  (oo:∀(A:Around) (outer:aq_) (s:Shared) (H:Hp) (vs:l_) (Q:VK) (E:XK),Ax k (A.deeper (envOfC qual scope s.heap.objs.size f af))->sp vs H Q E->
   ∃t,PSs mO_ body t/\t {nx:=λ_ H'=>Q .non H',rt:=Q} gz_ H):
  Ks P w K mg base CX S! f tw! ps sp:=by
 refine⟨len,λA outer s H args us vs Q E hr e0 J r iz=>?_⟩;have hl:=len _ _ _ _ iz;have KX:K.In s.heap:=e0.mod.kin.keeps λb o e=>(e0.bs b o e).1;have ay:s.heap.NoLimit:=e0.mod.nolimit.keeps λb o e=>(e0.bs b o e).1;have ce:∀y∈ps.zip us,scope.names.lookup y.1=some .local\/(scope.names.lookup y.1=some .cell/\((tp_).lookup y.1).isSome=true):=λ⟨n,v⟩ hy=>by
  rcases S.par n (JL hy).1 with q|q
  .exact .inl q
  .exact .inr ⟨q,W.cellsFrom_some _ _ _ (.inl q)⟩
 refine codeAny_call_function hr.depth (KX _ _ lk) rfl S.co S.gen rfl (W.codeRec_of KX bv) (J _ _ _ _ ?_);refine wpAny_newFunctionEnv_cells S.kind ce λenv he s1 x=>?_;subst he;refine⟨ay.keeps x.toInCall.keep,codeAny_func ?_⟩;obtain⟨t,ht,hq⟩:=oo A outer s H vs Q E (hr.deeper _) iz;have I:Inv mO_ [] gz_ H s1:=b0q S hr.hd e0 hl r x;refine CZ (ht [] s1 gz_ H _ I hq) (λfl s' hs=>?_) λe s' hs=>hs;have fin:∀{hx:St} {H':Hp} {v:V} {u:Value},Inv mO_ [] hx H' s'->Ds v u->Q v H'->CE outer P w H s Q u s':=
  λ{hx H' v u} ab rv q=>⟨v,H',ab.os,ab.bare,ab.base,ab.hok,rv,q⟩
 cases fl with
 |ret u=>
  obtain⟨v,hx,H',ab,rv,q⟩:=hs;exact fin ab rv q
 |next=>
  obtain⟨hx,H',ab,q⟩:=hs;exact fin (v:=V.non) (u:=cP_) ab rfl q
 |brk=>
  obtain⟨_,_,_,q⟩:=hs;exact False.elim q
 |cont=>
  obtain⟨_,_,_,q⟩:=hs;exact False.elim q
end L2
namespace L2
open PySem PySem.Spec PyProof.Rows
section
variable{X:Cx}{x:Str}{p pos:Pos}{e:Expr}{es:List Expr}{t:TA}{id T:String}{r:List V->Hp->VK->Prop}
noncomputable def tCB(r:cv!)(t:TA):TE:=λZ H Q=>t Z H λvs H1=>r vs H1 Q
theorem lJ(hc:mS!)(hg:R_)(hm:cs!)(hv:mS_)(ha:eR_)(hn:cs_:=by decide)(bc:G!:=by decide)
  (he:al_:=by rfl)(ax:aR_:=by rfl):PE X bh! (tCB r t):=by
 show"!H";refine EU tA_;exact PyProof.Rows.callWith_builtin1 tB! he ax
theorem qK(hc:mT_)(hg:R_)(hm:cs!)(hv:iT_)(ha:eR_)(hn:cs_:=by decide)(bc:G!:=by decide)
  (he:al_:=by rfl)(ax:aR_:=by rfl):PE X bh! (tCB r t):=by
 show"!H";refine EU tA_;exact EC tB! he ax
end
end L2
namespace HT
open PySem PyProof.Rows
noncomputable def lexLt:List Int->List Int->Bool
 |[],[]=>false
 |[],_::_=>true
 |_::_,[]=>false
 |x::xs,y::ys=>if x=y then lexLt xs ys else decide (x<y)
theorem lexLt_cons(x y:Int)(xs ys:A_):lexLt (x::xs) (y::ys)=if x=y then lexLt xs ys else decide (x<y):=rfl
theorem lexLt_nil_nil:lexLt [] []=false:=rfl
theorem mF(y:Int)(ys:A_):lexLt [] (y::ys)=true:=rfl
theorem mG(x:Int)(xs:A_):lexLt (x::xs) []=false:=rfl
theorem b7a(A:Around)(s:Shared)(a:Int)(t:Tok)(c:Int)(u:Tok):∃e,SeqAt.EqAt A s gB! mV! e/\(e=true↔a=c):=
 ⟨(a==c),HM a t c u,I!⟩
section
open PySem.SeqAt
open PySem.AutoSeq1 (wpAny_loadPart')
open PySem.MeetsSeq PySem.MeetsSeq2 PySem.MeetsSeq3
end
section
variable{prog:Program}{w:World}{A:Around}{E:Value->Shared->Prop}{s:Shared}
theorem cat_tup{t b:Addr}{vs ws:h!}{Q:p_}(ht:IsTup s.heap t b8_)(J:IsTup s.heap b ws.toArray)(hv:vs≠[])
  (B:ws=[]->Q iU_ s)(Y:ws≠[]->Q c1_ {s with heap:=s.heap.push {cls:=.type "tuple",data:=.seq (vs++ws).toArray}})
  (hsz:bz!+mW!<=sizeLine):wpAny n_ A (binaryOp .Add iU_ dV!) Q E s:=by
 obtain⟨⟨cls,dd,data,sl⟩,ho,hc,n,hd⟩:=id ht;obtain⟨⟨KG,km,data2,ja⟩,ie,jb,n2,jc⟩:=id J;simp only at hc hd jb jc;subst hc hd jb jc;have e:b8_++ws.toArray=(vs++ws).toArray:=by simp
 by_cases hw:ws=[]
 .exact concat_meets iV! iV_ noFill_tuple_add seq_tuple_add HS HJ (HG _ _)
   (tuple_addW1 t b vs.toArray ws.toArray n n2 dd km sl ja iW! (by simp[hw])) ⟨ho,ie,B hw⟩
 .refine concat_meets iV! iV_ noFill_tuple_add seq_tuple_add HS HJ (HG _ _)
   (tuple_addW2 t b vs.toArray ws.toArray n n2 dd km sl ja iW! mX! (by rw[AJ,AJ];exact hsz)) ⟨ho,ie,?_⟩
  rw[e];exact Y hw
noncomputable def sIx(n d:Nat):Option Int->Nat
 |none=>d
 |some v=>if v<0 then(mX_).toNat else min v.toNat n
theorem sIx_none(n d:Nat):sIx n d none=d:=rfl
theorem sIx_nat(n d k:Nat):sIx n d (some (k:Int))=min k n:=by show(if(k:Int)<0 then((k:Int)+(n:Int)).toNat else min (k:Int).toNat n)=min k n;rw[AH a!,FN]
theorem c5k(n d:Nat)(hd:d<=n)(o:a5_):sIx n d o<=n:=by
 cases o with
 |none=>exact hd
 |some v=>
  show tG!<=n;by_cases hv:v<0
  .rw[AN hv];omega
  .rw[AH hv];exact Nat.min_le_right _ _
theorem a8b(v:Int)(n d:Nat):tH!=((sIx n d dB!:Nat):Int):=by
 show tH!=((tG!:Nat):Int);by_cases hv:v<0
 .simp only[AN hv];omega
 .simp only[AH hv];omega
theorem a4w(lo hi:a5_)(n:Nat):Builtin.Slice.sliceAdjust lo hi 1 (n:Int)=(iW_,tJ!):=by
 have B:¬((1:Int)<0):=by omega
 unfold Builtin.Slice.sliceAdjust;simp only[B,BW];refine Prod.ext ?_ ?_
 .cases lo with
  |none=>rfl
  |some v=>exact a8b v n 0
 .cases hi with
  |none=>rfl
  |some v=>exact a8b v n n
theorem a3a(i j:Nat):Builtin.Slice.slicePlaces (i:Int) (j:Int) 1=j - i:=by
 unfold Builtin.Slice.slicePlaces;have B:(1:Int)>0:=by omega
 simp only[B,CF,Int.ediv_one];split<;>omega
theorem kL{v:Value}{o:a5_}{Q:Option Int->Shared->Prop}(p:IsPart v o)(h:Q o s):wpAny n_ A (Builtin.Slice.slicePartIndex v) Q E s:=by
 cases p with
 |none=>exact slicePart_none h
 |int i t=>exact slicePart_int h
theorem dS{lo hi:a5_}{n:Nat}{Q:Int×Int×Nat->Shared->Prop}(hs:tJ_)(pl:IsPart vl lo)(pu:IsPart vu hi)
  (h:Q (iW_,1,sIx n n hi - sIx n 0 lo) s):wpAny n_ A (Builtin.Slice.sliceApplied iX! (pure (n:Int))) Q E s:=by
 obtain⟨os,gi,oq,u7⟩:=id hs;unfold Builtin.Slice.sliceApplied Builtin.Slice.sliceFields;refine AA (AA (DP gi u7 (x:=vl) rfl (AA (DP gi u7 (x:=vu) rfl (AA (DP gi u7 (x:=.none) rfl ad_))))));refine AA (slicePart_none ?_);show wpAny _ _ (if((1:Int)==0)=true then _ else _) _ _ s;rw[AH c!];refine AA (kL pl (AA (kL pu (AA ad_))));show wpAny _ _ (match Builtin.Slice.sliceAdjust lo hi 1 (n:Int)with|(lo,hi)=>pure (lo,(1:Int),Builtin.Slice.slicePlaces lo hi 1)) _ _ s;rw[a4w lo hi n];show wpAny _ _ (pure (iW_,(1:Int),Builtin.Slice.slicePlaces iW_ tJ! 1)) _ _ s;rw[a3a];exact AC h
theorem b4e(xs:ab_)(i k:Nat):((List.range k).filterMap λ(m:Nat)=>xs[(mY_).toNat]?).toArray=((xs.toList.drop i).take k).toArray:=by
 have e:(λ(m:Nat)=>xs[(mY_).toNat]?)=λm=>xs[i+m]?:=by
  funext m;have:(mY_).toNat=i+m:=by omega
  rw[this]
 rw[e];have:=pick_run xs i k;rw[List.filterMap_map]at this;have e2:((λx=>xs[x]?)∘λx=>i+x)=λm=>xs[i+m]?:=rfl;rw[e2]at this;rw[this]
theorem getItem_tuple_cut{t:Addr}{items:ab_}{lo hi:a5_}{Q:p_}(ht:IsTup s.heap t items)(hs:tJ_)(pl:IsPart vl lo)(pu:IsPart vu hi)
  (hw:¬(sIx items.size 0 lo=0/\sIx items.size items.size hi=c5_))
  (h:Q c1_ {s with heap:=s.heap.push {cls:=.type "tuple",data:=.seq (mZ!).toArray}})
  (hsz:c5_<=sizeLine):wpAny n_ A (getItem iU_ iX!) Q E s:=by
 have u8:sizeOk (.seq (mZ!).toArray):=by
  show(mZ!).toArray.size<=sizeLine;rw[AJ,HQ,JF,CH];omega
 have hj:sIx items.size items.size hi<=c5_:=c5k _ _ x_ hi;obtain⟨os,gi,oq,u7⟩:=id hs;have PH:s.TypeIs iX! "slice":=⟨os,gi,oq⟩;unfold getItem
 try with_reducible refine CC ?_
 first|refine AA ad_|skip
 refine AA (wpAny_sequenceKey ht.typeIs c! ?_);refine AA (CM (name:=tQ!) ht.typeIs GJ
  (BX GJ ht.typeIs entry_tuple_getitem ?_ (args_tuple_getitem _ _)))
 show wpAny _ _ (Builtin.Tuple.tupleItemsOf iU_>>=_) _ _ s;refine AA (tupleItemsOf_ ht ?_);refine AA (wpAny_typeOf PH ?_);rw[AN c!];refine AA (dS hs pl pu ?_);have PJ:¬(tS!=true):=by
  intro q;rw[BI,BI]at q;have q1:tR_=0:=eq_of_beq q.1.1;have q2:sIx items.size items.size hi - sIx items.size 0 lo=c5_:=eq_of_beq q.2;exact hw ⟨t_,t_⟩
 show wpAny _ _ (if tS!=true then _ else _) _ _ s;rw[AH PJ,b4e]
 first
  |exact AA (m:=iY!) (DC iY_ u8)
  |exact AA (m:=iY!) (DC (AA (AC iY_)) u8)
  |exact AA (AA (m:=iY!) (DC (AC iY_) u8))
  |exact AA (AA (m:=iY!) (DC iY_ u8))
end
end HT
namespace L2
open PySem PySem.Spec PyProof.Rows
abbrev TO:=St->Hp->(Option Int->Hp->Prop)->Prop
noncomputable def PO(X:Cx)(e:Option Expr)(t:TO):Prop:=
 ∀(O:n!) (s:Shared) (Z:St) (H:Hp) (Q:tT_),Inv X O Z H s->t Z H Q->
  wpAny e_ X.A (evalPart e X.env) (λu s'=>∃o H',Inv X O Z H' s'/\IsPart u o/\Q o H') X.xe s
noncomputable def b9h:TO:=λ_ H Q=>Q none H
noncomputable def c9v(t:TE):TO:=λZ H Q=>t Z H λx H1=>∃i,x=.int i/\Q (some i) H1
theorem mX{ns:A_}:∀{us:h!},Ci b9! us->IntsAre us ns:=by
 induction ns with
 |nil=>intro us r;rw[FF]at r;cases r;exact .nil
 |cons n ns ih=>
  intro us r;rw[AK]at r;cases r with
  |cons r1 r2=>
   obtain⟨t,e⟩:=r1;subst e;exact .cons n t (ih r2)
section
variable{X:Cx}{e:Expr}{te:TE}{lo hi:Option Expr}{tl th:TO}{pos p2:Pos}
theorem c0n:PO X none b9h:=by intro O s Z H Q I h;rw[evalPart_none];exact AC ⟨none,H,I,.none,h⟩
theorem c0m(h:ct!):PO X ih! (c9v te):=by intro O s Z H Q I hw;rw[evalPart_some];refine Gq lP_ λu s1 ⟨x,H1,I1,r1,q1⟩=>?_;obtain⟨i,rfl,q⟩:=q1;obtain⟨t,rfl⟩:=r1;exact⟨H_,H1,I1,.int i t,q⟩
noncomputable def SlR(X:Cx)(r:iZ!):Prop:=
 ∀(O:n!) (s:Shared) (Z:St) (H:Hp) (x:V) (v vl vu:Value) (lo hi:a5_) (sl:Addr) (Q:VK),Inv X O Z H s->Ds x v->s.heap.IsSliceOf sl vl vu .none->IsPart vl lo->IsPart vu hi->r x lo hi H Q->
  ∃T id,typeLookup eV! "__getitem__"=pure (some eU_)/\s.TypeIs v T/\wpAny e_ X.A (getItem v iX!) aH_ X.xe s
theorem SlR.or{r r':iZ!}(h:SlR X r)(h':SlR X r'):SlR X (λx lo hi H Q=>r x lo hi H Q\/r' x lo hi H Q):=by
 intro O s Z H x v vl vu lo hi sl Q I rx hs pl pu q;rcases q with q|q
 .exact h O s Z H x v vl vu lo hi sl Q I rx hs pl pu q
 .exact h' O s Z H x v vl vu lo hi sl Q I rx hs pl pu q
noncomputable def tSl(r:iZ!)(te:TE)(tl th:TO):TE:=λZ H Q=>te Z H λx H1=>tl Z H1 λl H2=>th Z H2 λu H3=>r x l u H3 Q
theorem b4j{r:iZ!}(hr:SlR X r)(he:ct!)(hl:PO X lo tl)(hu:PO X hi th):PE X (.Subscript e m1! pos) (tSl r te tl th):=by intro O s Z H Q I h;refine Subscript_ ru_;refine wpAny_Slice (Gq (hl O s1 Z H1 _ I1 q1) λvl s2 ⟨l,H2,I2,pl,q2⟩=>Gq (hu O s2 Z H2 _ I2 q2) λvu s3 ⟨u,H3,I3,pu,q3⟩=>?_);rw[evalPart_none];refine AC ?_;have I4:Inv X O Z H3 {s3 with heap:=s3.heap.push {cls:=.type "slice",data:=.fields #[vl,vu,.none]}}:=I3.kept (t':=s3.toks) λb ob q=>AG _ q;obtain⟨T,id,hT,ht,hg⟩:=hr O {s3 with heap:=s3.heap.push {cls:=.type "slice",data:=.fields #[vl,vu,.none]}} Z H3 x v vl vu l u s3.heap.objs.size Q I4 r1 (Heap.IsSliceOf.new ..) pl pu q3;show wpAny e_ X.A (subscriptTail e m1! v (.ref tX!)) aH_ X.xe {s3 with heap:=s3.heap.push {cls:=.type "slice",data:=.fields #[vl,vu,.none]}};exact tail_any (ops:=[.ref tX!,v]) ht hT hg (by with_unfolding_all rfl)
noncomputable def a0t(xs:l_)(lo hi:a5_):List V:=(xs.drop m1_).take m2!
theorem hJ(xs:l_)(lo hi:a5_):(gC_).length<=k_:=by unfold a0t;rw[HQ,JF];omega
noncomputable def d4z(K:W.Frag):V->Option Int->Option Int->Hp->VK->Prop:=λx lo hi H Q=>∃a xs,x=.ref a/\Lp K H a xs/\
 ¬(HT.sIx xs.length 0 lo=0/\HT.sIx xs.length xs.length hi=k_)/\∀p,H p=none->Q b7! (upd H p (.tup gC_))
theorem c5i:SlR X (d4z X.K):=by
 intro O s Z H x v vl vu lo hi sl Q I rx hs pl pu h;obtain⟨a,xs,rfl,L,hw,q⟩:=h;cases rx;obtain⟨its,r,ht,hz⟩:=I.tuple L;have al:bi!=k_:=by rw[AJ];exact r.length.symm
 refine⟨"tuple",_,GJ.lookup,ht.typeIs,?_⟩;refine HT.getItem_tuple_cut ht hs pl pu (by rw[al];exact hw) ?_ (by rw[al];exact hz);rw[al];refine⟨c6!,_,I.laid (t':=s.toks) (o:=.tup gC_) m2_ x_ ?_,rfl,q _ gy!⟩;exact⟨t0_,_,t1!,IsTup.new _ _⟩
noncomputable def c3u(K:W.Frag):R2:=λx y H Q=>∃a b xs ys,x=.ref a/\y=.ref b/\Lp K H a xs/\Lp K H b ys/\xs≠[]/\k_+Z!<=sizeLine/\
 (ys=[]->Q ac! H)/\(ys≠[]->∀p,H p=none->Q b7! (upd H p (.tup et!)))
theorem Ci.nil_iff{xs:l_}(r:fQ_):us=[]↔xs=[]:=by
 cases r with
 |nil=>simp
 |cons _ _=>simp
theorem c0z:Ml X eJ_ (c3u X.K):=by intro O s Z H x y v u Q I rx ry h;obtain⟨a,b,xs,ys,rfl,rfl,ha,J,L,hz,q1,q2⟩:=h;cases rx;cases ry;obtain⟨its,r1,p1,_⟩:=I.tuple ha;obtain⟨gj,r2,p2,_⟩:=I.tuple J;refine HT.cat_tup p1 p2 (λz=>L (r1.nil_iff.mp z)) (λz=>⟨dQ_,H,I,rfl,q1 (r2.nil_iff.mp z)⟩) (λz=>?_) (by rw[<-r1.length,<-r2.length];exact hz);refine⟨c6!,_,I.laid (t':=s.toks) (o:=.tup et!) m2_ x_ ?_,rfl,q2 (λw=>z (r2.nil_iff.mpr w)) _ gy!⟩;exact⟨by rw[AY];exact hz,_,r1.append r2,IsTup.new _ _⟩
end
end L2
namespace L2
open PySem PySem.Spec PyProof.Rows
noncomputable def Iw(n:Nat)(i:Int):Option Nat:=if 0<=i then(if i<n then some i.toNat else none)else if -(n:Int)<=i then some (i+n).toNat else none
noncomputable def Gm{α:Type}(xs:N_)(i:Int):Option α:=(Iw xs.length i).bind λj=>xs[j]?
theorem a7n{n:Nat}{i:Int}{j:Nat}(h:Iw n i=some j):seqIndex? i n=some j/\j<n/\-(n:Int)<=i/\i<n:=by
 unfold Iw at h;by_cases h0:0<=i
 .rw[AN h0]at h;by_cases B:i<n
  .rw[AN B]at h;have e:i.toNat=j:=BZ h;exact⟨by rw[seqIndex_of h0 B,e],t_,t_,B⟩
  .rw[AH B]at h;cases h
 .rw[AH h0]at h;by_cases B:-(n:Int)<=i
  .rw[AN B]at h;have e:(i+n).toNat=j:=BZ h;exact⟨by rw[seqIndex_neg a! B,e],t_,B,t_⟩
  .rw[AH B]at h;cases h
theorem wD{α:Type}{xs:N_}{i:Int}{v:α}(h:Gm xs i=some v):∃j,seqIndex? i k_=some j/\xs[j]?=some v/\j<k_/\-iZ_<=i/\i<k_:=by
 unfold Gm at h;cases e:Iw xs.length i with
 |none=>rw[e]at h;cases h
 |some j=>
  rw[e]at h;obtain⟨B,Y,h3,h4⟩:=a7n e;exact⟨j,B,h,Y,h3,h4⟩
noncomputable def jK(b:Expr):Prop:=∀o i,subscripted b false o i=operate [o,i] (getItem o i)
noncomputable def IxR(X:Cx)(r:R2):Prop:=
 ∀(value f8:Expr) (O:n!) (s:Shared) (Z:St) (H:Hp) (x y:V) (v u:Value) (Q:VK),Inv X O Z H s->Ds x v->Ds y u->r x y H Q->
  subscripted f8 false v u=operate [v,u] (getItem v u)->wpAny e_ X.A (subscriptTail value f8 v u) aH_ X.xe s
noncomputable def MtR(X:Cx)(id:String)(r:i0!):Prop:=
 ∀(O:n!) (s:Shared) (Z:St) (H:Hp) (x:V) (xs:l_) (v:Value) (us:h!) (Q:VK),Inv X O Z H s->Ds x v->Ci xs us->r x xs H Q->
  wpAny e_ X.A t6! aH_ X.xe s
section
variable{X:Cx}{a b:Expr}{ta tb:TE}{pos:Pos}
theorem IxR.or{r r':R2}(h:i0_)(h':IxR X r'):IxR X si!:=by
 intro value f8 O s Z H x y v u Q I rx ry q hs;rcases q with q|q
 .exact h value f8 O s Z H x y v u Q I rx ry q hs
 .exact h' value f8 O s Z H x y v u Q I rx ry q hs
theorem b4o{r:R2}(hr:i0_)(ha:a0!)(J:cr_)(hs:jK b):PE X m5_ ix!:=by intro O s Z H Q I h;exact Subscript_ (c8n ha J I h λv u s2 x y H2 I2 rx ry q=>hr a b O s2 Z H2 x y v u Q I2 rx ry q (hs _ _))
noncomputable def d0s(K:W.Frag):R2:=λx y H Q=>∃p xs i v,x=.ref p/\y=.int i/\Kw K H p xs/\Gm xs i=some v/\Q v H
noncomputable def d0q(K:W.Frag):R2:=λx y H Q=>∃p xs i v,x=.ref p/\y=.int i/\Lp K H p xs/\Gm xs i=some v/\Q v H
noncomputable def d0r:R2:=λx y H Q=>∃z i c,x=.str z/\y=.int i/\dV_<=sizeLine/\Gm z.cps.toList i=some c/\Q gD_ H
theorem a7m:IxR X (d0s X.K):=by
 intro value f8 O s Z H x y v u Q I rx ry h hs;obtain⟨p,xs,i,z,rfl,rfl,hq,he,q⟩:=h;cases rx;obtain⟨t,rfl⟩:=ry;show"!P";obtain⟨j,B,Y,h3,h4,h5⟩:=wD he;obtain⟨w,ew,aj⟩:=r.get Y;have hl:=aC!;have hn:=eZ;have fin:EP X O Z Q w s:=t7_;by_cases h0:0<=i
 .have hj:i.toNat=j:=by
   rw[seqIndex_of h0 h5]at B;exact BZ B
  exact item_listR pl.isList h0 a! t8! fin hs
 .have hj:(i+(bi!:Int)).toNat=j:=by
   rw[seqIndex_neg a! h4]at B;rw[AJ,<-hl];exact BZ B
  exact subscriptTail_builtinR (x:=w) pl.isList.typeIs t9_
   (wpAny_getItem_list_neg (Q:=ua!) pl.isList a! ub! a! t8! ⟨rfl,fin⟩) hs
theorem c7c:IxR X (d0q X.K):=by
 intro value f8 O s Z H x y v u Q I rx ry h hs;obtain⟨p,xs,i,z,rfl,rfl,hq,he,q⟩:=h;cases rx;obtain⟨t,rfl⟩:=ry;obtain⟨its,r,pl,hz⟩:=I.tuple hq;obtain⟨j,B,Y,h3,h4,h5⟩:=wD he;obtain⟨w,ew,aj⟩:=r.get Y;have hl:=aC!;have hn:=eZ;have fin:EP X O Z Q w s:=t7_;exact subscriptTail_builtinR (x:=w) pl.typeIs slot_tuple_getitem.lookup
  (getItem_tuple (j:=j) (Q:=ua!) pl a! a! (by rw[AJ,<-hl];exact B) (by simpa using ew) ⟨rfl,fin⟩) hs
theorem c7d:IxR X d0r:=by
 intro value f8 O s Z H x y v u Q I rx ry h hs;obtain⟨z,i,c,rfl,rfl,hz,he,q⟩:=h;obtain⟨t,rfl⟩:=rx;obtain⟨t',rfl⟩:=ry;obtain⟨j,B,Y,h3,h4,h5⟩:=wD he;have hl:z.cps.toList.length=dV_:=by simp[Str.length]
 rw[hl]at B h4 h5;have hn:=eZ;exact tail_any (typeIs_str s z t) slot_str_getitem.lookup (getItem_str (c:=c) (by
  have e1:decide (i< -(2 ^ 63:Int))=false:=AU a!;have e2:decide (i>=2 ^ 63)=false:=AU a!;rw[e1,e2,Bool.or_false]) (by rw[B];simpa using Y) ⟨gE!,H,a0_,K_,q⟩) hs
noncomputable def rIx(K:W.Frag):R2:=λx y H Q=>d0s K x y H Q\/d0q K x y H Q\/d0r x y H Q
theorem An:IxR X (rIx X.K):=a7m.or (c7c.or c7d)
theorem a3s(its:h!)(n j:Nat)(u:Value):Obj.mapSeq uc! {cls:=.type "list",data:=.seq its.toArray n}={cls:=.type "list",data:=.seq (its.set j u).toArray n}:=by simp[Obj.mapSeq]
theorem Inv.lst{O:n!}{Z:St}{H:Hp}{s:Shared}{p:Addr}{xs:l_}(I:d!)(h:H p=some L!):
  ∃(its:h!) (n:Nat),Ci xs its/\s.heap.get? p=some {cls:=.type "list",data:=.seq its.toArray n}/\k_<=sizeLine:=by
 obtain⟨z,its,n,r,e⟩:=I.hok p _ h;exact⟨its,n,r,e,z⟩
theorem Inv.lstUpd{O:n!}{Z:St}{H:Hp}{s:Shared}{p:Addr}{xs ys:l_}{its its':h!}{n n':Nat}{f:Obj->Obj}(I:d!)(h:H p=some L!)
  (ho:s.heap.get? p=some {cls:=.type "list",data:=.seq its.toArray n})(hf:f {cls:=.type "list",data:=.seq its.toArray n}={cls:=.type "list",data:=.seq its'.toArray n'})(r:Ci ys its')(hz:i1!)(t:Nat):
  Inv X O Z (upd H p a6!) {s with heap:=s.heap.update p f,toks:=t}:=by
 have e:(s.heap.update p f).get? p=some {cls:=.type "list",data:=.seq its'.toArray n'}:=by
  rw[FU f ho (by rw[hf]<;>rfl),hf]
 refine I.write (x:=p) (e:=p) (by rw[h];trivial) aH! (λb u J q=>(ud!).trans q) ⟨_,e⟩ ?_;exact⟨hz,its',n',r,e⟩
noncomputable def d0m:V->V->V->Hp->lW_->Prop:=λo i v H Q=>∃p xs k j,o=.ref p/\i=.int k/\H p=some L!/\Iw xs.length k=some j/\Q ud_
theorem xD:b1e X d0m:=by
 intro O s Z H o i v ov iv u Q I ro ri rv h;obtain⟨p,xs,k,j,rfl,rfl,hp,hj,q⟩:=h;cases ro;obtain⟨t,rfl⟩:=ri;obtain⟨its,n,r,ho,hz⟩:=I.lst hp;obtain⟨B,Y,h3,h4⟩:=a7n hj;have hl:=aC!;have hn:=eZ;have I':Inv X O Z ud_ {s with heap:=s.heap.update p (Obj.mapSeq uc!)}:=
  I.lstUpd hp ho (a3s its n j u) (r.set rv j) (by rw[EE];exact hz) s.toks
 by_cases h0:0<=k
 .have hk:k.toNat=j:=by
   rw[seqIndex_of h0 h4]at B;exact BZ B
  exact W.ki_setAt ho h0 a! (by rw[AJ,<-hl];exact h4) ue!
 .have hk:(k+(bi!:Int)).toNat=j:=by
   rw[seqIndex_neg a! h3]at B;rw[AJ,<-hl];exact BZ B
  exact W.ki_setBack ho a! (by rw[AJ,<-hl];exact h3) a! ue!
theorem sK(lo hi:a5_)(n:Nat):(m7!).1=((HT.sIx n 0 lo:Nat):Int)/\(m7!).2.1=((HT.sIx n n hi:Nat):Int)/\(m7!).2.2=1:=by
 refine⟨?_,?_,rfl⟩
 .cases lo with
  |none=>simp[sliceBounds,HT.sIx]
  |some i=>
   show"!n"
   .simp only[h,CF]<;>omega
   .simp only[h,BW]<;>omega
 .cases hi with
  |none=>simp[sliceBounds,HT.sIx]
  |some i=>
   show"!n"
   .simp only[h,CF]<;>omega
   .simp only[h,BW]<;>omega
theorem oE(its:h!)(lo hi:a5_):slicePick its.toArray lo hi none=((its.drop (HT.sIx its.length 0 lo)).take (HT.sIx its.length its.length hi - HT.sIx its.length 0 lo)).toArray:=by obtain⟨B,Y,h3⟩:=sK lo hi bi!;unfold slicePick;rw[B,Y,h3];simp only[sliceRange_one,pick_run,AJ]<;>rfl
noncomputable def d5a(K:W.Frag):V->Option Int->Option Int->Hp->VK->Prop:=λx lo hi H Q=>∃a xs,x=.ref a/\Kw K H a xs/\∀p,H p=none->Q b7! (upd H p (.lst gC_))
theorem b9k:SlR X (d5a X.K):=by intro O s Z H x v vl vu lo hi sl Q I rx hs pl pu h;obtain⟨a,xs,rfl,L,q⟩:=h;cases rx;obtain⟨its,r,ht,hz⟩:=I.list L;have al:=aC!;refine⟨"list",_,t9_,ht.isList.typeIs,?_⟩;refine wpAny_getItem_list_slice ht.isList hs pl pu .none d_ ?_ ub!;rw[oE,<-al];refine⟨c6!,_,I.laid (t':=s.toks) (o:=.lst gC_) m2_ x_ ?_,rfl,q _ gy!⟩;exact⟨t0_,_,0,t1!,dK!⟩
noncomputable def Zg:V->Bool
 |.non=>true
 |.bl _=>true
 |.int _=>true
 |.str _=>true
 |_=>false
noncomputable def eqV:V->V->Bool
 |.non,.non=>true
 |.bl a,.bl b=>a==b
 |.bl a,.int b=>ug!==b
 |.int a,.bl b=>a==ug_
 |.int a,.int b=>a==b
 |.str a,.str b=>a==b
 |_,_=>false
theorem c7n{A:Around}{s:Shared}{y x:V}{u v:Value}(ry:Ds y u)(rx:Ds x v)(fy:Zg y=true)(fx:Zg x=true):SeqAt.EqAt A s u v (eqV y x):=by
 cases y with
 |non=>
  cases ry;cases x with
  |non=>cases rx;exact SeqAt.EqAt.same _
  |bl b=>cases rx;exact SeqAt.EqAt.none_bool b
  |int b=>obtain⟨t,rfl⟩:=rx;exact SeqAt.EqAt.none_int b t
  |str b=>obtain⟨t,rfl⟩:=rx;exact SeqAt.EqAt.none_str b t
  |_=>exact absurd i2! BC
 |bl a=>
  cases ry;cases x with
  |non=>cases rx;exact SeqAt.EqAt.bool_none a
  |bl b=>cases rx;exact SeqAt.EqAt.bool_bool a b
  |int b=>obtain⟨t,rfl⟩:=rx;exact SeqAt.EqAt.bool_int a b t
  |str b=>obtain⟨t,rfl⟩:=rx;exact SeqAt.EqAt.bool_str a b t
  |_=>exact absurd i2! BC
 |int a=>
  obtain⟨t',rfl⟩:=ry;cases x with
  |non=>cases rx;exact SeqAt.EqAt.int_none a t'
  |bl b=>cases rx;exact SeqAt.EqAt.int_bool a t' b
  |int b=>obtain⟨t,rfl⟩:=rx;exact HM a t' b t
  |str b=>obtain⟨t,rfl⟩:=rx;exact SeqAt.EqAt.int_str a t' b t
  |_=>exact absurd i2! BC
 |str a=>
  obtain⟨t',rfl⟩:=ry;cases x with
  |non=>cases rx;exact SeqAt.EqAt.str_none a t'
  |bl b=>cases rx;exact SeqAt.EqAt.str_bool a t' b
  |int b=>obtain⟨t,rfl⟩:=rx;exact SeqAt.EqAt.str_int a t' b t
  |str b=>obtain⟨t,rfl⟩:=rx;exact SeqAt.EqAt.str_str a t' b t
  |_=>exact absurd i2! BC
 |_=>exact absurd (show false=true from fy) BC
noncomputable def eqU(x:V)(u:Value):Bool:=match u with
 |.none=>eqV .non x
 |.bool b=>eqV bI_ x
 |.int i _=>eqV bv_ x
 |.str z _=>eqV i3! x
 |_=>false
theorem b6z{x y:V}{u:Value}(r:Ds y u)(f:Zg y=true):eqU x u=eqV y x:=by
 cases y with
 |non=>cases r;rfl
 |bl b=>cases r;rfl
 |int i=>obtain⟨t,rfl⟩:=r;rfl
 |str z=>obtain⟨t,rfl⟩:=r;rfl
 |_=>exact absurd (show false=true from f) BC
theorem wF{x:V}:∀{xs:l_} {us:h!},Ci xs us->xs.all Zg=true->us.any gF!=xs.any λy=>eqV y x
 |_,_,.nil,_=>rfl
 |y::xs,u::us,.cons r t,f=>by
  rw[FM,BI]at f;rw[EO,EO,b6z r f.1,wF t f.2]
theorem lY{A:Around}{s:Shared}{x:V}{v:Value}(rx:Ds x v)(fx:Zg x=true):∀{xs:l_} {us:h!},Ci xs us->xs.all Zg=true->∀u∈us,SeqAt.EqAt A s u v (eqU x u)
 |_,_,.nil,_=>λu hu=>by cases hu
 |y::xs,u::us,.cons r t,f=>λu' hu=>by
  rw[FM,BI]at f;rcases AD.mp hu with rfl|hu
  .rw[b6z r f.1];exact c7n r rx f.1 fx
  .exact lY rx fx t f.2 u' hu
noncomputable def inV(x:V)(xs:l_):Bool:=xs.any λy=>eqV y x
noncomputable def rIn(K:W.Frag)(neg:Bool):R2:=λx y H Q=>∃p xs,y=.ref p/\(Kw K H p xs\/Lp K H p xs)/\Zg x=true/\xs.all Zg=true/\Q (.bl (if neg then !inV x xs else inV x xs)) H
theorem a9u:Ml X i3_ (rIn X.K false):=by
 intro O s Z H x y v u Q I rx ry h;obtain⟨p,xs,rfl,hq,fx,fs,q⟩:=h;cases ry;rcases hq with hq|hq
 .show"!P";refine SeqAt.in_listAt gF! pl.isList uh! eZ!;rw[uh_,wF r fs];exact q
 .show"!z";refine SeqAt.in_tupleAt gF! pl uh! eZ!;rw[uh_,wF r fs];exact q
theorem dB:Ph X a6_ (λxs H Q=>∃p ys,xs=gF_/\(Kw X.K H p ys\/Lp X.K H p ys)/\∀l,H l=none->Q i5! i5_):=by
 intro O s Z H xs us Q I r h;obtain⟨p,ys,rfl,hq,q⟩:=h;obtain⟨u,rfl,rx⟩:=aU r;cases rx;have fin:∀(its:h!),Ci ys its->Z!<=sizeLine->∀(h':Heap) (c':Nat),(∀b o',s.heap.get? b=some o'->h'.get? b=some o')->
   h'.get? q!=some {cls:=.type "list",dict:=none,data:=.seq its.toArray c',slots:=#[]}->EP X O Z Q c1_ {s with heap:=h'}:=λits r' hz h' c' kp e=>
  ⟨c6!,_,I.laid (t':=s.toks) kp x_ (show Ke X.prog X.w _ h' _ a6! from⟨hz,its,c',r',e⟩),rfl,q _ gy!⟩
 rcases hq with hq|hq
 .obtain⟨its,r',pl,hz⟩:=I.list hq;have al:=iC_;obtain⟨o,ho,hc,n,hd⟩:=pl.isList;exact call_list_seq p aH! ho hc hd uj! uj_
 .obtain⟨its,r',pl,hz⟩:=I.tuple hq;have al:=iC_;obtain⟨o,ho,hc,n,hd⟩:=pl;exact call_list_seq p eZ_ ho hc hd uj! uj_
noncomputable def tyV(K:W.Frag)(T:String)(x:V)(H:Hp):Prop:=match x with
 |.str _=>T="str"
 |.int _=>T="int"
 |.ref p=>(T="list"/\∃xs,Kw K H p xs)\/(T="tuple"/\∃o,K.lookup p=some o/\o.cls=.type "tuple"/\o.dict=none)\/
   (T="dict"/\((∃kvs,H p=some dO!)\/∃kvs,H p=some i7!))\/(T="set"/\∃S n,H p=some (.set S n))
 |_=>False
theorem b1z{O:n!}{Z:St}{H:Hp}{s:Shared}{T:String}{x:V}{v:Value}(I:d!)(r:Ds x v)(ty:tyV X.K T x H):
  s.TypeIs v T/\∀a,v=.ref a->∃ob,s.heap.get? a=some ob/\ob.dict=none:=by
 cases x with
 |str z=>
  obtain⟨t,rfl⟩:=r;cases (show T="str" from ty);exact⟨typeIs_str s z t,uk_⟩
 |int i=>
  obtain⟨t,rfl⟩:=r;cases (show T="int" from ty);exact⟨typeIs_int s i t,uk_⟩
 |ref p=>
  cases r;rcases ty with⟨rfl,xs,hq⟩|⟨rfl,o,hk,hc,hd⟩|⟨rfl,hk⟩|⟨rfl,S,n,hk⟩
  .obtain⟨its,_,pl,_⟩:=I.list hq;refine⟨pl.isList.typeIs,λa e=>?_⟩;cases e;obtain⟨o,n,e,c,hd,_⟩:=pl;exact⟨o,e,hd⟩
  .refine⟨⟨o,I.kIn p o hk,hc⟩,λa e=>?_⟩;cases e;exact⟨o,I.kIn _ o hk,hd⟩
  .have z:∃o,s.heap.get? p=some o/\hU_:=by
    rcases hk with⟨kvs,hk⟩|⟨kvs,hk⟩
    .show"!w"
    .show"!w"
   obtain⟨o,e,ex⟩:=z;refine um_;cases e2;exact un!
  .obtain⟨o,_,_,_,e,ex,_⟩:=I.hok p _ hk;refine um_;cases e2;exact un!
 |_=>exact False.elim ty
noncomputable def d4u(K:W.Frag)(T:String)(r:i0!)(to:TE):TE:=λZ H Q=>to Z H λx H1=>tyV K T x H1/\r x [] H1 Q
noncomputable def tBM(K:W.Frag)(T:String)(r:i0!)(to:TE)(t:TA):TE:=λZ H Q=>to Z H λx H1=>tyV K T x H1/\t Z H1 λxs H2=>r x xs H2 Q
variable{o e:Expr}{es:List Expr}{to:TE}{t:TA}{name:Str}{ag ac:Pos}{T id:String}{r:V->List V->Hp->VK->Prop}
theorem d5g(pa:PlainAttrs T)(slot:un_)(xa:uo!)(hm:MtR X id r)(ho:lX_)
  (eh:uo_:=by rfl)(ez:c7_:=by rfl):PE X (.Call up! [] [] ac) (d4u X.K T r to):=by
 show"!H";refine wpAny_Call_method0_late eh ez up_;obtain⟨B,Y⟩:=b1z I1 r1 ty;exact⟨T,id,pa,slot,xa,B,Y,ER rfl (PySem.evalArgs_none (hm O s1 Z H1 x [] v [] Q I1 r1 .nil q1))⟩
theorem qL(pa:PlainAttrs T)(slot:un_)(xa:uo!)(hm:MtR X id r)(ho:lX_)(ha:eR_)
  (eh:uo_:=by rfl)
  (gk:((backTo ac s9!).all cx_&&(cy!).all cy_
   &&decide ((aI_).length+(dW!).length+e0!<30))=true:=by rfl)
  (ez:c7_:=by rfl) (hs:al_:=by rfl) (gn:(uq!).any a_=false:=by rfl):
  PE X (.Call up! aI_ [] ac) (tBM X.K T r to t):=by
 show"!H";refine wpAny_Call_method_late eh gk ez rfl up_;obtain⟨B,Y⟩:=b1z I1 r1 ty;refine⟨T,id,pa,slot,xa,B,Y,?_⟩;have hA:=ha ac O s1 Z H1 _ I1 q1;rw[hs]at hA ⊢;refine ER (by show(false||(uq!).any a_)=false;rw[gn]<;>rfl) (FY ?_);exact Gq hA λus s2 ⟨vs,H2,I2,r2,q2⟩=>hm O s2 Z H2 x vs v us Q I2 r1 r2 q2
end
end L2
namespace L2
open PySem PySem.Spec PyProof.Rows
noncomputable def MtM(X:Cx)(id:String)(r:i0!):Prop:=
 ∀(O:n!) (s:Shared) (Z:St) (H:Hp) (x:V) (xs:l_) (v:Value) (us:h!) (Q:VK),Inv X O Z H s->Ds x v->Ci xs us->r x xs H Q->
  wpAny e_ X.A t6! aH_ X.xe s
theorem Ci.one:∀{x:V} {us:h!},Ci [x] us->∃u,us=[u]/\Ds x u
 |_,_,.cons r .nil=>lj_
theorem Ci.zero:∀{us:h!},Ci [] us->us=[]
 |_,.nil=>rfl
theorem Ci.dropLast{xs:l_}{us:h!}(h:fQ_):Ci xs.dropLast us.dropLast:=by
 induction h with
 |nil=>exact .nil
 |cons r t ih=>
  cases t with
  |nil=>exact .nil
  |cons q t'=>exact .cons r ih
theorem Ci.rep{xs:l_}(h:fQ_):∀k:Nat,Ci (ur_).flatten (List.replicate k us).flatten
 |0=>.nil
 |k+1=>by
  rw[ED,ED,FL,FL];exact Ci.append h (Ci.rep h k)
theorem a4j{α:Type}(l:N_):l.eraseIdx (ai_ - 1)=l.dropLast:=by
 induction l with
 |nil=>rfl
 |cons a r ih=>
  cases r with
  |nil=>rfl
  |cons b r=>
   have e:(a::b::r).length - 1=((b::r).length - 1)+1:=by
    have B:(a::b::r).length=aC!+2:=rfl;have Y:(b::r).length=aC!+1:=rfl;omega
   rw[e,List.eraseIdx_cons_succ,ih]
   all_goals rfl
theorem rG(its:h!):∀(k:Nat) (acc:h!),
  List.foldl na! acc.toArray (List.replicate k aO!)=(acc++(us_).flatten).toArray
 |0,acc=>by simp
 |k+1,acc=>by
  have e:acc.toArray++aO!=(na_).toArray:=by simp
  have e2:na_++(us_).flatten=acc++(List.replicate S! its).flatten:=by
   rw[ED,FL,CN]
  rw[<-e2,<-rG its k na_,<-e,ED,List.foldl_cons]
section
variable{X:Cx}{O:List (Addr×Obj)}{Z:St}{H:Hp}{s:Shared}{l b:Addr}{xs ys zs:List V}
theorem Inv.lset{its its':h!}{n:Nat}{f:Array Value->Array Value}{t':Nat}(I:d!)(hH:H l=some L!)
  (e:s.heap.get? l=some {cls:=.type "list",data:=.seq its.toArray n})(hf:f aO!=its'.toArray)(hv:Ci ys its')(hz:i1!):
  Inv X O Z i5_ {s with heap:=s.heap.update l ut_,toks:=t'}:=by
 have q:=PySem.IsL.update e f;rw[hf]at q;refine I.write (x:=l) (e:=l) (by rw[hH];exact trivial) aH! (λb' u J hu=>(CP s.heap ut_ (AI J)).trans hu) ⟨_,q⟩ ?_;exact⟨hz,its',_,hv,q⟩
theorem Inv.lnew{its:h!}{t':Nat}(I:d!)(hv:Ci ys its)(hz:i1!):
  Inv X O Z (upd H s.heap.objs.size a6!) {s with heap:=s.heap.push {cls:=.type "list",data:=.seq aO!},toks:=t'}:=
 I.laid uu! x_ ⟨hz,its,0,hv,dK!⟩
theorem Inv.fresh(I:d!):H q!=none:=I.hok.fresh x_
theorem Inv.lstM(I:d!)(hH:H l=some L!):k_<=sizeLine/\∃(its:h!) (n:Nat),Ci xs its/\k_=e0_/\s.heap.get? l=some {cls:=.type "list",data:=.seq its.toArray n}:=by obtain⟨z,its,n,r,e⟩:=I.hok l _ hH;exact⟨z,its,n,r,aC!,e⟩
theorem yU{n:Nat}(h:nb!):Builtin.List.listTooLong n=false:=by unfold Builtin.List.listTooLong;exact AU a!
end
section
variable{X:Cx}
noncomputable def b9y:V->List V->Hp->VK->Prop:=λx vs H Q=>∃l xs y,x=.ref l/\vs=[y]/\H l=some L!/\k_<sizeLine/\Q .non (upd H l (.lst (xs++[y])))
theorem qS:MtM X "list.append" b9y:=by intro O s Z H x vs v us Q I rx rv h;obtain⟨l,xs,y,rfl,rfl,hH,hz,q⟩:=h;cases rx;obtain⟨u,rfl,ru⟩:=rv.one;obtain⟨z,its,n,r,hl,e⟩:=I.lstM hH;refine IV F.slot_list_append c8! F.entry_list_append (F.args_list_append_2 _ _) (PySem.list_append l its.toArray n u nb_) e1!;refine⟨.non,_,I.lset (its':=its++[u]) hH e d_ (r.append uu_) ?_,rfl,q⟩;rw[AY,DN];omega
noncomputable def b9x:V->List V->Hp->VK->Prop:=λx vs H Q=>∃l b xs zs,x=.ref l/\vs=[.ref b]/\H l=some L!/\H b=some (.lst zs)/\k_+zs.length<=sizeLine/\Q .non (upd H l uv_)
theorem b0j:MtM X "list.extend" b9x:=by
 intro O s Z H x vs v us Q I rx rv h;obtain⟨l,b,xs,zs,rfl,rfl,hH,hB,hz,q⟩:=h;cases rx;obtain⟨u,rfl,ru⟩:=rv.one;cases ru;obtain⟨z,its,n,r,hl,e⟩:=I.lstM hH;obtain⟨z2,gj,n2,r2,WM,e2⟩:=I.lstM hB;have hsz:bi!+uw!<=sizeLine:=by rw[AJ,AJ];omega
 have xb:¬(! mu_&&Builtin.List.listTooLong (bi!+uw!))=true:=by
  rw[yU hsz,IH];exact BC
 refine IV F.slot_list_extend c8! F.entry_list_extend (F.args_list_extend_2 _ _)
  (AutoSeq1.list_extend_list_list_0 l its.toArray n b gj.toArray n2 xb nb_ a!) ⟨e,e2,?_⟩
 refine⟨.non,_,I.lset (its':=its++gj) hH e d_ (r.append r2) ?_,rfl,q⟩;rw[AY];omega
noncomputable def d5c:V->List V->Hp->VK->Prop:=λx vs H Q=>∃l xs y,x=.ref l/\vs=[]/\H l=some L!/\xs[k_ - 1]?=some y/\Q y (upd H l (.lst xs.dropLast))
theorem d5p:MtM X "list.pop" d5c:=by
 intro O s Z H x vs v us Q I rx rv h;obtain⟨l,xs,y,rfl,rfl,hH,hy,q⟩:=h;cases rx;have PK:=rv.zero;subst PK;obtain⟨z,its,n,r,hl,e⟩:=I.lstM hH;obtain⟨u,hu,ru⟩:=r.get hy;have xc:aO![bi! - 1]?=some u:=by
  show aO![e0_ - 1]?=some u;rw[<-EQ,<-hl];exact hu
 refine IV F.slot_list_pop c8! F.entry_list_pop (F.args_list_pop_1 _) (MeetsSeq.list_pop_last l its.toArray n u xc nb_) e1!;refine⟨y,_,I.lset (its':=its.dropLast) hH e ?_ r.dropLast ?_,ru,q⟩
 .show its.toArray.eraseIdxIfInBounds (bi! - 1)=its.dropLast.toArray;rw[AJ,List.eraseIdxIfInBounds_toArray,a4j]
 .rw[List.length_dropLast];omega
noncomputable def d5b:R2:=λx y H Q=>∃l k xs,x=.ref l/\y=.int k/\H l=some L!/\-(2 ^ 63)<=k/\k<2 ^ 63/\k_*k.toNat<=sizeLine/\
 ∀p,H p=none->Q b7! (upd H p (.lst (List.replicate k.toNat xs).flatten))
theorem c1k{α:Type}(xs:N_)(k:Nat):(ur_).flatten.length=k*k_:=by
 induction k with
 |zero=>simp
 |succ k ih=>rw[ED,FL,AY,ih,Nat.succ_mul,Nat.add_comm]
theorem c6d:Ml X mi_ d5b:=by
 intro O s Z H x y v u Q I rx ry h;obtain⟨l,k,xs,rfl,rfl,hH,B,Y,hz,q⟩:=h;cases rx;obtain⟨t,rfl⟩:=ry;obtain⟨z,its,n,r,hl,e⟩:=I.lstM hH;have al:bi!*k.toNat<=sizeLine:=by rw[AJ,<-hl];exact hz
 have PL:¬bi!*k.toNat>nc! / 8:=by
  have:(sizeLine:Nat)<=nc! / 8:=by decide
  omega
 have xf:¬(!Builtin.List.listFitsIndex k)=true:=by
  rw[fitsIndex_both B Y];exact BC
 have xb:¬Builtin.List.listTooLong (bi!*k.toNat)=true:=by
  rw[yU al];exact BC
 have ou:List.foldl na! #[] (List.replicate (if mu_=true then 0 else k.toNat) aO!)=(List.replicate k.toNat its).flatten.toArray:=by
  have f0:∀m:Nat,List.foldl na! #[] (List.replicate m aO!)=(List.replicate m its).flatten.toArray:=λm=>by
   have:=rG its m [];rw[CT]at this;exact this
  rw[f0];cases its with
  |nil=>simp
  |cons a r'=>rw[T!]
 refine wpAny_binaryOp_repeat_ref (T:="list") (U:="int") c! c8! (λs'=>typeIs_int s' k t) noFill_list_mul F.fills_int_mul F.slot_int_rmul repeat_list F.slot_int_index.lookup
  (IV F.slot_int_rmul (typeIs_int s k t) F.entry_int_rmul (F.args_int_rmul_2 _ _) (int___rmul___int_list k t l its.toArray n)
   ⟨e,rfl,c8!,IV F.slot_list_mul c8! F.entry_list_mul (F.args_list_mul_2 _ _) (AutoListH.list___mul___list_int_3 l its.toArray n k t xf PL xb) e1!⟩)
 rw[ou];exact⟨.ref _,_,I.lnew (t':=s.toks) (r.rep k.toNat) (by rw[c1k,Nat.mul_comm];exact hz),rfl,q _ I.fresh⟩
end
end L2
namespace L2
open PySem PySem.Spec PyProof.Rows
section
variable{κ:Type} [DecidableEq κ]
noncomputable def aV(kvs:gr_)(k:κ):Option V:=(kvs.find? λkv=>decide (kv.1=k)).map B_
theorem b1x{p:κ×V}{r:gr_}{k:κ}(e:p.1=k):aV (p::r) k=some p.2:=by simp[aV,EF,e]
theorem b1y{p:κ×V}{r:gr_}{k:κ}(e:¬p.1=k):aV (p::r) k=aV r k:=by simp[aV,EF,e]
theorem dI.isSome_eq{o:Option V}{u:mD!}(r:dI o u):o.isSome=u.isSome:=by
 cases o with
 |none=>cases u with
  |none=>rfl
  |some _=>exact(iH_).elim
 |some _=>cases u with
  |none=>exact(iH_).elim
  |some _=>rfl
theorem KV.val{kvs:gr_}{vs:List ll!}(r:KV kvs vs)(k:κ):dI (aV kvs k) (valueAt vs k):=by
 unfold KV at r
 induction r with
 |nil=>exact iJ_
 |@cons p q ps qs h t ih=>
  obtain⟨B,Y⟩:=h;by_cases e:p.1=k
  .have e':q.1=k:=B.symm.trans e;have b:valueAt (q::qs) k=some q.2:=by simp[valueAt,EF,e']
   rw[b1x e,b];exact Y
  .have e':¬q.1=k:=λz=>e (B.trans z);have b:valueAt (q::qs) k=valueAt qs k:=by simp[valueAt,EF,e']
   rw[b1y e,b];exact ih
end
theorem b6e{P:Program}{w:World}{k:Key}{u:Value}(r:Ds (kV k) u):(br_).is k u=true:=by
 cases k with
 |inl i=>obtain⟨t,e⟩:=sJ_;subst e;exact zC P w i t
 |inr x=>obtain⟨t,e⟩:=sK!;subst e;exact Wi P w x t
theorem fD{P:Program}{w:World}:∀{ks:List Key} {us:h!},Ci nd_ us->ItemsAre br_ ks us
 |[],_,r=>by rw[FF]at r;cases r;exact .nil
 |k::ks,_,r=>by
  rw[AK]at r;cases r with
  |cons h t=>exact .cons (b6e h) (fD t)
abbrev KT(H:Hp):List (List Key×V)->List ll_->Prop:=Paired λp q=>p.1=q.1/\H q.2.1=some qj_/\Ds p.2 q.2.2
section
variable{P:Program}{w:World}{H:Hp}{h:Heap}{a:Addr}
theorem d0l{u:HO}(ok:bs_)(e:Rd H a u):Ke P w H h a u:=e.ok ok
theorem vC{ks:List Key}(ok:bs_)(e:H a=some (.tup nd_)):(fR!).is h ks a:=by obtain⟨_,its,r,o,B,Y,n,h3⟩:=(show Ke P w H h a (.tup nd_)from ok a _ e);exact⟨o,aO!,n,B,Y,h3,by simpa using fD r⟩
theorem d2l{kvs:hT_}(ok:bs_)(e:Rd H a i7!):az!<=sizeLine/\dy_=false/\
  ∃xs,KT H kvs xs/\h.DictOfH fR! a xs:=by
 obtain⟨z,y,xs,r,o,es,ep,B,Y,h3,h4,h5⟩:=(show Ke P w H h a i7! from d0l ok e);refine⟨z,y,xs,r,o,es,ep,B,Y,h3,h4,a7!,h5⟩;have all:∀{l:hT_} {m:List ll_},KT H l m->∀x∈m,(fR!).is h x.1 x.2.1:=by
  intro l m q
  induction q with
  |nil=>intro x L;exact nomatch L
  |@cons p q ps qs hq t ih=>
   intro x L;rcases AD.mp L with e|L
   .subst e;exact vC ok (by rw[<-hq.1];exact hq.2.1)
   .exact ih x L
 exact all r x L
theorem nL{kvs:hT_}(ok:bs_)(e:H a=some i7!):az!<=sizeLine/\dy_=false/\
  ∃xs,KT H kvs xs/\h.DictOfH fR! a xs:=d2l ok (.inl e)
end
section
variable{X:Cx}{O:List (Addr×Obj)}{Z:St}{H:Hp}{s:Shared}{a:Addr}{y v:V}{u r:Value}{o:Option V}{A:Around}{E:Value->Shared->Prop}
theorem Inv.big(I:d!):sysModules<q!:=by have h:mainGlobals<q!:=(I.mod.glob.keeps I.bk).lt;exact Nat.lt_trans c! h
theorem c2u{h':Heap}{t':Nat}{ob:HO}(I:d!)(mu:Mut (H a))(hs:uA!)(he:∃q,h'.get? a=some q)(new:Ke X.prog X.w (upd H a ob) h' a ob):
  Inv X O Z (upd H a ob) {s with heap:=h',toks:=t'}:=
 I.write (x:=a) (e:=a) mu aH! (λb q J z=>(hs.2 b J).trans z) he new
end
noncomputable def d2x(i:Expr):Prop:=∀ov iv,subscripted i false ov iv=operate [ov,iv] (getItem ov iv)
theorem b9i{prog:Program}{w:World}{A:Around}{E:p_}{s:Shared}{value:Expr}{pos:Pos}{T id:String}{Q:p_}
  (hl:typeLookup eV! "__getitem__"=pure (some eU_))(hs:d2x f8)
  (h:wpAny n_ A (eval value env) (λo ai=>wpAny n_ A (eval f8 env) (λi ak=>ak.TypeIs o T/\wpAny n_ A (getItem o i) Q E ak) E ai) E s):
  wpAny n_ A (eval (.Subscript value f8 pos) env) Q E s:=by
 refine Subscript_ (CZ h (λo ai h₁=>CZ h₁ (λi ak qo=>?_) λ_ _ x=>x) λ_ _ x=>x);obtain⟨hT,qo⟩:=qo;unfold subscriptTail;refine AA ?_;rw[getitemInPython_of_ne hT.not_modules];refine AA (HE hT hl ?_);have fin:wpAny n_ A (subscripted f8 false o i) (λr dr=>wpAny n_ A (letTemporaryGo value o r>>=λ_=>pure r) Q E dr) E ak:=by
  rw[hs o i];exact wpAny_operating (CZ qo (λr dr u9=>AA (wpAny_letTemporaryGo (AC u9))) λ_ _ x=>x)
 first
  |exact AC je_
  |exact AA (AC je_)
  |exact AA fin
structure M1(X:Cx)(o:Expr)(m:Str)(ag:Pos)(e:Expr)(ac:Pos):Prop where
 base:attributeBase o m X.env dH_=eval o X.env
 few:((jf!).all cx_&&(cy!).all cy_
  &&decide (([e]:List Expr).length+(dW!).length+e0!<30))=true
 line:m8_=true
 trees:backTo ac uA_=[eQ!]
structure M2(X:Cx)(o:Expr)(m:Str)(ag:Pos)(e f:Expr)(ac:Pos):Prop where
 base:attributeBase o m X.env dH_=eval o X.env
 few:((backTo ac uB!).all cx_&&(cy!).all cy_
  &&decide (([e,f]:List Expr).length+(dW!).length+e0!<30))=true
 line:m8_=true
 trees:backTo ac uB!=[eQ!,(false,eval f X.env)]
end L2
namespace Att
open PySem PySem.W PySem.Calls PyProof.Rows
theorem iN{P:Params}{h:Heap}:∀(ns:A_) (vs:h!),WellAll P h vs uB_->IntsAre vs ns:=by
 intro ns
 induction ns with
 |nil=>
  intro vs w;rw[FF]at w;cases w;exact .nil
 |cons n ns ih=>
  intro vs w;rw[AK]at w;cases w with
  |cons a b=>
   cases a;exact .cons _ _ (ih _ b)
theorem a8x{l:OpenLaw}{n:Nat}(hn:jg!){P:Params}{h:Heap}{args:List WData}
  (va:l.row.toRowW.claim.pre args=true)(xg:WellAll P h xh args):
  ∃a vs ns,xh=[Value.ref a]/\args=[WData.list uB_]/\h.get? a=some {cls:=.type "list",data:=.seq b8_}/\IntsAre vs ns/\c2_<=n:=by
 have PM:WShape.hasAll [] args [.list .int]=true:=(uD!).1;have hc:l.pre.holds [] {args:=args}=true:=(uD!).2;obtain⟨d,r,rfl,B,Y⟩:=hasAllW_cons PM;obtain rfl:=hasAllW_nil Y;obtain⟨xs,rfl,h3⟩:=hasW_list B;obtain⟨ns,rfl⟩:=items_int h3;have al:c2_<=n:=by
  unfold OpenLaw.pre at hc;have h4:(WTm.not (.lt (.lit (.int (n:Int))) (.len (.arg 0)))).holds [] {args:=[.list jg_]}=true:=by
   have h4:=(holds_andW hc).1;rw[hn]at h4;exact h4
  have h5:=condW_of h4 (w_not (w_lt w_lit (w_len_list (w_arg rfl))));rw[AW]at h5;refine Nat.le_of_not_lt λq=>?_;have q':(n:Int)<((c2_:Nat):Int):=by omega
  first
   |(rw[BJ q']at h5;exact absurd h5 c!)
   |(simp at h5;omega)
 cases xg with
 |cons w1 w2=>
  cases w2;cases w1 with
  |list ho ff=>exact⟨_,_,ns,rfl,rfl,ho,iN ns _ ff,al⟩
theorem a9l(l:OpenLaw)(args:List WData):l.row.toRowW.claim.post args gH! args=true:=
 postW_of (r:=l.row.toRowW) (X:=(true==true))
  (show WShape.has [] gH! .bool=true by first|rfl|decide|simp[WShape.has,WShape.arms,WShape.armsAll])
  (show(WTm.eq .res (.lit gH!)).value [] {args:=args,res:=some gH!,after:=args}=some (.bool (true==true))from w_eq_bool (w_res rfl) w_lit) rfl
theorem a1a{l:OpenLaw}{n:Nat}{XP:nf_}{YP:ng!}{d:DefRec}
  (hn:jg!)(qq:nh!)
  (call:∀(w:World) (s₀ ai:Shared) (mg mb:A!) (fa:Addr) (o:Obj) (pm cd bn:Value) (a:Addr) (vs:h!) (ns:A_),
   Ground q xk [] XP w s₀ mg mb ai.heap->YP w ai.heap->
   ai.heap.get? fa=some o->o.data=.func (docDef d.name d.params d.body d.scope pm cd bn)->ai.heap.CodeRec cd d.name->mg d.name=some e1_->
   ai.heap.get? a=some {cls:=.type "list",data:=.seq b8_}->IntsAre vs ns->c2_<=n->ai.gens=#[]->
   codeAny (model l.prog w) callerA ni! ni_ ai):
  WalkO q xk XP YP l.row.toRowW d [] nj!:=by
 intro w s₀ ai mg mb G vb fa o pm cd bn dV kV ho hd bv hD jx hg args xh as va WN WO xg WQ;obtain rfl:dV=.none:=Dflts.none hD qq;obtain rfl:kV=.none:=Dflts.noKw hD;obtain⟨a,vs,ns,rfl,rfl,xl,hints,al⟩:=a8x hn va xg;refine enter_call (IS (call w s₀ ai mg mb fa o pm cd bn a vs ns G vb ho (fd_plain hd) bv jx xl hints al hg) λr s' hq=>?_);obtain⟨rfl,Y,h3,h4⟩:=hq;exact⟨.inl ⟨nj_,nj_,[],rfl,gt_,nj_,a9l l _,λ_=>⟨jh_,λ_ hm=>(nomatch hm)⟩⟩,Y,h3,h4⟩
section
variable{prog:Program}{w:World}{A:Around}{E:Value->Shared->Prop}{s:Shared}{K:Frag}
end
end Att
namespace L2
open PySem PySem.Spec PyProof.Rows
theorem pR:∀{vs:h!} {ns:A_},IntsAre vs ns->Ci b9! vs
 |_,_,.nil=>.nil
 |_,_,.cons n t h=>.cons nk! (pR h)
noncomputable def c3g(H:Hp):Prop:=∀b,H b=none\/∃o xs,H b=some (.frz o L!)
theorem b5x{P:Program}{w:World}{K:W.Frag}{mg mb:A!}{CX:CXT}{k:Nat}{a:Addr}{fd:FuncData}{x:Str}{sp:Sp}{ai:Shared}{vs:h!}{ns:A_}
  (KX:K.In ai.heap)(KH:ai.heap.Ns mainGlobals mg)(J:ai.heap.Ns builtinsNs mb)(PN:∀x:Str,x≠"__name__"->mb x=bootBuiltins x)(PP:ai.heap.NoLimit)(hg:ai.gens=#[])
  (ha:ai.heap.get? a=some {cls:=.type "list",data:=.seq b8_})(hi:IntsAre vs ns)(hl:sD_)(hr:nk_)
  (F:∀base:Heap,K.In base->base.Ns mainGlobals mg->Ks P w K mg base CX k fa fd [x] sp)(PQ:∀(s:Shared) (u:Value),BindsTo s fd jj! [(x,u)])
  (iz:∀H:Hp,c3g H->Kw K H a b9!->sp bg! H jj_ λ_ _ _=>False)
  (qr:∀H e s',CX [] H ai nl! e s'->False):
  codeAny J! callerA ni! ni_ ai:=by
 have rv:=pR hi;have PR:=hi.length;have KI:∀H:Hp,c3g H->Kw K H a b9!->dJ P w H ai.heap->(∀b,H b≠none->b=a)->(H a≠none->K.lookup a=none)->
   codeAny J! callerA ni! ni_ ai:=by
  intro H hO hS hok hA hK;have KJ:∀{b:Addr} {o:Obj},ai.heap.get? b=some o->H b=none->(gI_).get? b=some o:=λe n=>b6q e n;have qm:∀{b:Addr} {o:Obj} {es:bO_} {ep:Nat},ai.heap.get? b=some o->o.data=.dict es ep->H b=none:=λ{b o es ep} e d=>by
   cases q:H b with
   |none=>rfl
   |some u=>
    have e':b=a:=hA b ca!;subst e';rw[ha]at e;cases e;have d':Data.seq vs.toArray _=Data.dict es ep:=d;cases d'
  have vc:∀{b:Addr} {m:A!},ai.heap.Ns b m->(gI_).Ns b m:=λ{b m} ⟨o,es,ep,e,d,r⟩=>⟨o,es,ep,KJ e (qm e d),d,r⟩;have KL:K.In gI_:=λb o e=>KJ (KX b o e) (by
   cases q:H b with
   |none=>rfl
   |some u=>
    have e':b=a:=hA b ca!;subst e';rw[hK ca!]at e;cases e)
  have hM:Mod K mg gI_:=⟨KL,vc KH,⟨mb,vc J,PN⟩,let⟨mc,B,Y⟩:=PP;⟨mc,vc B,Y⟩⟩;have e0:nZ P w K mg gI_ callerA [] ai H:=⟨rfl,hM,λb o e=>c1f e,GX (b0s _ _),trivial,λb J=>absurd (show b∈tr_ from J) d_,hok,.of_eq hg⟩;refine IS ((F _ KL (vc KH)).run callerA [] ai H nh_ bg! bg! _ _ hr e0 (PQ ai ac!) tc_ (iz H hO hS)) λr s' h=>?_;cases r with
  |error e=>exact(qr H e s' h).elim
  |ok fl=>
   cases fl with
   |next=>exact False.elim h
   |brk=>exact False.elim h
   |cont=>exact False.elim h
   |ret u=>
    obtain⟨v,H',os,bare,un,PU,r',q⟩:=h;have q':v=.bl true:=q;subst q';obtain rfl:u=Value.bool true:=r';refine⟨rfl,OldK.of_keep λb o e=>?_,os,bare⟩;cases q:H b with
    |none=>exact un.keep b o e q (by intro z;exact absurd ts! d_) d_
    |some u=>
     rcases hO b with z|⟨ob,xs,z⟩
     .rw[q]at z;cases z
     .have z2:=un.frzs b ob _ z;obtain⟨e1,_⟩:=hok b _ z;obtain⟨e2,_⟩:=PU b _ z2;rw[e]at e1;cases e1;exact e2
 cases hk:K.lookup a with
 |some o=>
  have e:=KX a o hk;rw[ha]at e;cases e;refine KI (λ_=>none) (λ_=>.inl rfl) (.inr ⟨_,b8_,_,hk,rfl,rfl,rfl,by rw[AJ,PR];exact hl,by simpa using rv⟩) (λb u z=>by have z':(none:Option HO)=some u:=z;cases z') (λb z=>absurd rfl z) λz=>absurd rfl z
 |none=>
  refine KI (λb=>if b=a then some (.frz {cls:=.type "list",data:=.seq b8_} (.lst b9!))else none) (λb=>?_) (.inl (.inr ⟨{cls:=.type "list",data:=.seq b8_},j!⟩)) (λb u z=>?_) (λb z=>?_) λ_=>hk
  .by_cases J:b=a
   .exact .inr ⟨_,_,AN J⟩
   .exact .inl (AH J)
  .by_cases J:b=a
   .have z':=(AN J).symm.trans z;cases z';subst J;exact⟨ha,uF_,vs,_,rv,ha⟩
   .have z':=(AH J).symm.trans z;cases z'
  .by_cases J:b=a
   .exact J
   .exact absurd (AH J) z
end L2
namespace L2
open PySem PySem.Spec PyProof.Rows
theorem b8x{l:W.OpenLaw}{n k:Nat}{XP:nf_}{YP:ng!}{d:DefRec}{K:uG_}{CX:World->CXT}{sp:World->Sp}{x:Str}
  (hn:jg!)(jw:nb!)(qq:nh!)(hr:nk_)
  (hY:uH!)
  (F:∀(w:World) (mg:A!) (fa:Addr) (h:Heap),(bP!).In h->h.Ns mainGlobals mg->mg d.name=some e1_->
   ∃fd:FuncData,uH_/\
    ∀base:Heap,(bP!).In base->base.Ns mainGlobals mg->Ks l.prog w bP! mg base (CX w) k fa fd [x] (sp w))
  (iz:∀(w:World) (H:Hp) (a:Addr) (ns:A_),c2_<=n->c3g H->Kw bP! H a b9!->sp w bg! H jj_ λ_ _ _=>False)
  (qr:∀(w:World) (H:Hp) (s:Shared) (e:Value) (s':Shared),CX w [] H s nl! e s'->False):
  W.WalkO q xk XP YP l.row.toRowW d [] nj!:=by
 refine Att.a1a hn qq λw s₀ ai mg mb fa o pm cd bn a vs ns G vb ho hd bv jx xl hints al hg=>?_;have KX:=hY w _ vb;obtain⟨fd,J,hF⟩:=F w mg fa _ KX G.T.g jx;exact b5x KX G.T.g G.T.b G.T.builtins G.T.nolimit hg xl hints (BN al jw) hr hF J (λH hO hS=>iz w H a ns al hO hS) λH e s'=>qr w H ai e s'
theorem b1s{l:W.OpenLaw}{n k:Nat}{XP:nf_}{YP:ng!}{d:DefRec}{K:uG_}{CX:CXT}{sp:W.Frag->Sp}{x:Str}
  (hn:jg!)(jw:nb!)(qq:nh!)(hr:nk_)
  (hY:uH!)
  (F:∀(w:World) (mg:A!) (fa:Addr) (h:Heap),(bP!).In h->h.Ns mainGlobals mg->mg d.name=some e1_->
   ∃fd:FuncData,uH_/\
    ∀base:Heap,(bP!).In base->base.Ns mainGlobals mg->Ks l.prog w bP! mg base CX k fa fd [x] (sp bP!))
  (iz:∀(K:W.Frag) (H:Hp) (a:Addr) (ns:A_),c2_<=n->c3g H->Kw K H a b9!->sp K bg! H jj_ λ_ _ _=>False)
  (qr:∀(H:Hp) (s:Shared) (e:Value) (s':Shared),CX [] H s nl! e s'->False):
  W.WalkO q xk XP YP l.row.toRowW d [] nj!:=
 b8x (K:=K) (CX:=λ_=>CX) (sp:=λw=>sp bP!) hn jw qq hr hY F (λw H a ns B Y h3=>iz bP! H a ns B Y h3) λ_ H s e s'=>qr H s e s'
end L2
namespace L2
open PySem PySem.Spec PyProof.Rows
noncomputable def Kv(s:Stmt):Arguments:=match s with
 |.FunctionDef _ a _ _ _ _ _ _ _ _=>a
 |_=>{posonlyargs:=[],args:=[],vararg:=none,kwonlyargs:=[],kw_defaults:=[],kwarg:=none,defaults:=[]}
noncomputable def Gf(s:Stmt):List Stmt:=match s with
 |.FunctionDef _ _ b _ _ _ _ _ _ _=>b
 |_=>[]
noncomputable def Ah(s:Stmt):Scope:=match s with
 |.FunctionDef _ _ _ _ _ _ sc _ _ _=>sc
 |_=>{kind:=.function,names:=[],isGenerator:=false,isCoroutine:=false}
abbrev iR:CXT:=λ_ _ _ _ _ _=>False
abbrev E0:XK:=λ_ _ _=>False
theorem lK{X:Cx}:Xm iR X E0:=λ_ _ _ _ _ _ _ h=>h.elim
structure Fun(K:W.Frag)(x qual:Str)(st:Stmt)(f:Addr)(fd:FuncData):Prop where
 ex:∃(oc:Value) (od:a5!) (kV bn pm:Value) (an:a5!) (af ct:Value) (dt:b8!),
  fd=W.fnOf x qual jl! bP_ bA_ .none kV bn pm an af ct/\K.lookup f=some ⟨oc,od,.func fd,dt⟩/\W.codeIn K af qual=true
 kp:W.keepIn K ah_=true
section
variable{P:Program}{w:World}{K:W.Frag}{mg:Str->Option Value}{base:Heap}
theorem Fun.ok{x:Str}{st:Stmt}{f:Addr}{fd:FuncData}{ps:p!}{k:Nat}{sp:Sp}(F:uI!)(S:dZ!)(len:tx_)
  (oo:∀(af:Value) (A:Around) (outer:aq_) (s:Shared) (H:Hp) (vs:l_) (Q:VK) (E:XK),Ax k (A.deeper (envOfC qual bA_ s.heap.objs.size f af))->sp vs H Q E->
   ∃t,PSs (fN iR P w K mg base N qual bA_ f af A outer s H E).nox bP_ t/\t {nx:=λ_ H'=>Q .non H',rt:=Q} gz_ H):Ks P w K mg base iR S! f fd ps sp:=by
 show"#+";refine d2g lk bv S len λA outer s H vs Q E hr iz=>?_;obtain⟨t,h,q⟩:=oo af A outer s H vs Q E hr iz;exact⟨t,h.nox,q⟩
theorem Fun.binds{x:Str}{st:Stmt}{f:Addr}{fd:FuncData}{ps:p!}(F:uI!)
  (h:uI_):Jx K fd ps []:=by
 show"#+";exact .all (h kV bn pm an af ct)
theorem aI{x:Str}{st:Stmt}{f:Addr}{od an:a5!}{dt:b8!}{kV:Value}(l:uJ!)
  (c:iS_)(k:gJ!):Fun K x qual st f np!:=⟨⟨oc,od,kV,bn,pm,an,af,ct,dt,rfl,l,c⟩,k⟩
end
theorem a8t{n:Nat}(h:n<=1000):n<sizeLine:=EM h c!
theorem Wx{A hb:Prop}(h:hb):if false=true then A else hb:=by rw[AH BC];exact h
theorem Ww{A hb:Prop}(h:A):if true=true then A else hb:=by rw[j!];exact h
noncomputable def Cv(H H':Hp):Prop:=∀b o,H b=some o->H' b=some o
theorem Cv.refl(H:Hp):Cv H H:=λ_ _ h=>h
theorem Cv.trans{H H1 H2:Hp}(a:Cv H H1)(b:Cv H1 H2):Cv H H2:=λc o h=>b c o (a c o h)
theorem Cv.free{H H':Hp}(e:e2_){l:Addr}(h:H' l=Option.none):H l=Option.none:=by
 cases q:H l with
 |none=>rfl
 |some o=>
  rw[e l o q]at h;cases h
theorem Cv.seq{K:W.Frag}{H H':Hp}{a:Addr}{xs:l_}(e:e2_)(h:Kw K H a xs):Kw K H' a xs:=by
 rcases h with(h|⟨o,h⟩)|h
 .exact uJ_
 .exact uK!
 .exact .inr h
end L2
namespace L2
open PySem PySem.Spec PyProof.Rows
theorem Inv.track{X:Cx}{O:n!}{Z:St}{H:Hp}{s:Shared}{D:Addr}{ys:l_}{us:h!}{n:Nat}(I:d!)
  (hD:s.heap.get? D=some {cls:=.type "list",data:=.seq us.toArray n})(r:Ci ys us)(hz:i1!)(hn:H D=none)(hs:dA!<=D)(hL:D≠X.env.locals)
  (hc:∀x c,X.env.cells.lookup x=some c->c≠D)(hp:∀p∈X.pn++O,p.1≠D):Inv X O Z (upd H D a6!) s:=by
 have ne:∀b u,H b=some u->b≠D:=λb u e=>Ej e hn;refine I.step (g':=s.gens) (d':=s.drawn) (t':=s.toks) (h':=s.heap) (ch:=[D]) lA_ (λb o _ _ _ e _=>e) (λb o _ _ _ e _=>uL!) (λb o hc e n=>?_) (λb o _ e=>⟨o,e⟩)
  (λb xs e=>by rw[nq!];exact e) (λb o u e=>by rw[nq!];exact e) (λb ps e=>⟨#[],by rw[nq!,e];simp⟩) nq_ qP! I.bare
 .have e:b=D:=by simpa using J
  subst e;exact⟨.inr hs,hL,hc,hp⟩
 .rw[nr!];exact n
 .by_cases J:b=D
  .show"!x";exact⟨hz,us,n,r,hD⟩
  .rw[Bt J]at e;exact(I.hok b u e).stay nr_ (λc q=>by rw[Bt (ne c _ q)];exact q) λc xs q=>by rw[Bt (ne c _ q)];exact q
noncomputable def closOf(cells:bj!):List uM_->List e3_->List e3_
 |[],acc=>acc
 |(n,k)::r,acc=>if k==.free then closOf cells r ((n,(uM!).getD 0)::acc)else closOf cells r acc
structure c3i(X:Cx)(scope:Scope)(cl:bj!):Prop where
 eq:closureFor scope X.env=pure cl
 sub:∀x c,cl.lookup x=some c->X.env.cells.lookup x=some c
 all:∀x,scope.names.lookup x=some .free->∃c,cl.lookup x=some c
theorem fP{env:Env}:∀(names:e4_) (acc:bj!),(∀p∈names,p.2=.free->∃c,env.cells.lookup p.1=some c)->
  (forIn names acc λx r=>(match x with|(name,kind)=>if(kind==gK!)=true then(do let a <-cellOf env name;pure uN!)else pure jm_:Sem uO!))=(pure (closOf env.cells names acc):Sem (List e3_))
 |[],acc,_=>rfl
 |(n,k)::r,acc,h=>by
  rw[FH];cases hk:(k==gK!)with
  |true=>
   obtain⟨c,hc⟩:=h (n,k) AM uO_;have bp:env.cells.lookup n=some c:=hc;have e:cellOf env n=pure c:=by unfold cellOf;rw[bp]
   have ih:=fP r ((n,c)::acc) λp hp=>h p jn!;have e2:closOf env.cells ((n,k)::r) acc=closOf env.cells r ((n,c)::acc):=by
    show uP!;rw[a4_,bp];rfl
   rw[e2,<-ih];simp only[hk,CF,e];rfl
  |false=>
   have ih:=fP r acc λp hp=>h p jn!;have e2:closOf env.cells ((n,k)::r) acc=closOf env.cells r acc:=by
    show uP!;rw[AH (by rw[hk];exact BC)]
   rw[e2,<-ih];simp only[hk];rfl
theorem aN(cells:bj!):∀(names:e4_) (acc:bj!),(∀p∈names,p.2=.free->∃c,cells.lookup p.1=some c)->(∀p∈acc,cells.lookup p.1=some p.2)->∀p∈closOf cells names acc,cells.lookup p.1=some p.2
 |[],_,_,h=>h
 |(n,k)::r,acc,hn,h=>by
  unfold closOf;split
  .rename_i hk;obtain⟨c,hc⟩:=hn (n,k) AM uO_;refine aN cells r _ uQ_ λp hp=>?_;rcases AD.mp hp with rfl|hp
   .have bp:cells.lookup n=some c:=hc;show cells.lookup n=some ((uM!).getD 0);rw[bp];rfl
   .exact h p hp
  .exact aN cells r _ uQ_ h
theorem aP(cells:bj!):∀(names:e4_) (acc:bj!) (x:Str),(∃c,(x,c)∈acc)->∃c,(x,c)∈closOf cells names acc
 |[],_,_,h=>h
 |(n,k)::r,acc,x,h=>by
  unfold closOf;split
  .exact aP cells r _ x (let⟨c,hc⟩:=h;⟨c,AE _ hc⟩)
  .exact aP cells r _ x h
theorem aO(cells:bj!):∀(names:e4_) (acc:bj!) (x:Str),(x,gK!)∈names->∃c,(x,c)∈closOf cells names acc
 |[],_,_,h=>nomatch h
 |(n,k)::r,acc,x,h=>by
  unfold closOf;rcases AD.mp h with h|h
  .cases h;rw[gM!];exact aP cells r _ _ ⟨_,AM⟩
  .split
   .exact uR!
   .exact uR!
theorem Zd{β:Type}:∀{l:List (Str×β)} {x:Str} {c:β},(x,c)∈l->∃d,l.lookup x=some d
 |[],_,_,h=>nomatch h
 |(n,k)::r,x,c,h=>by
  cases L:(x==n)with
  |true=>exact⟨k,by simp[BY,L]⟩
  |false=>
   rcases AD.mp h with h|h
   .cases h;simp at L
   .obtain⟨d,hd⟩:=Zd h;exact⟨d,by simp[BY,L,hd]⟩
theorem a8a{X:Cx}{scope:Scope}(h:∀p∈cb_,p.2=.free->∃c,X.env.cells.lookup p.1=some c):∃cl,c3i X scope cl:=by
 refine⟨closOf X.env.cells scope.names [],?_,ly!,λx e=>?_⟩
 .have e:=fP (env:=X.env) scope.names [] h;show(do let cs <-forIn scope.names [] _;pure cs)=_;simp only[closureFor];rw[show(forIn scope.names ([]:List e3_) λx r=>(match x with|(name,kind)=>if(kind==NameKind.free)=true then(do let a <-cellOf X.env name;pure uN!)else pure jm_:Sem uO!))=pure (closOf X.env.cells scope.names [])from e];rfl
 .exact aN X.env.cells scope.names [] h qL_ (x,c) (EB e)
 .obtain⟨c,hc⟩:=aO X.env.cells scope.names [] x (EB e);exact Zd hc
noncomputable def aL(X:Cx)(scope:Scope)(cl:bj!)(C:Addr)(N:p!)(ak:Shared)(a8:Hp)(fp:aq!):Cx:=
 {X with N:=N,s₀:=ak,H₀:=a8,env:=compEnvC scope cl C X.env,outer:=X.stack,stack:=X.stack,ex:=fp,fn:=λ_=>false,pn:=[],xe:=λ_ _=>False}
theorem Wk{env:Env}:∀{names:e4_} {x:Str},(∀y∈names,y.2≠.cell)->
  ((jo!).lookup x=some .cell\/
     (jo!).lookup x=some .free)->names.lookup x=some .free
 |[],_,_,h=>by simp at h
 |(n,k)::r,x,hc,h=>by
  have ih:=@Wk env r x λy hy=>hc y d2!;have hk:k≠.cell:=hc (n,k) AM;rw[AK]at h;by_cases hf:nt_=true
  .simp only[hf,CF]at h;cases L:x==n with
   |true=>
    simp only[BY,L];simp only[BI,FJ]at hf;rw[hf.1.1]
   |false=>
    simp only[BY,L]at h ⊢;exact ih h
  .simp only[hf]at h;cases L:x==n with
   |true=>
    simp only[BH,BW,BY,L]at h ⊢;rcases h with h|h
    .cases h;exact absurd rfl hk
    .exact h
   |false=>
    show"#3";exact ih h
theorem Wl{env:Env}:∀{names:e4_} {x:Str},names.lookup x=some .free->
  ((jo!).lookup x=some .cell\/
     (jo!).lookup x=some .free)
 |[],_,h=>by simp at h
 |(n,k)::r,x,h=>by
  have ih:=@Wl env r x;rw[AK];by_cases hf:nt_=true
  .simp only[hf,CF];cases L:x==n with
   |true=>exact .inl (by simp[BY,L])
   |false=>
    simp only[BY,L]at h ⊢;exact ih h
  .simp only[hf];cases L:x==n with
   |true=>
    show"#3";exact .inr h
   |false=>
    show"#3";exact ih h
structure Gn(X:Cx)(scope:Scope)(NF:p!)(ix:k!):Prop where
 len:NF.length=ix.length
 at_:∀(k:Nat) (x:Str),NF[k]?=some x->∃j,ix[k]?=some j/\X.N[j]?=some x/\scope.names.lookup x=some .free/\qC!
theorem Gn.nil{X:Cx}:Gn X scope [] []:=⟨rfl,λk x e=>by simp at e⟩
theorem Gn.cons{X:Cx}{scope:Scope}{j:Nat}{ix:k!}(h:c9_)(B:uS_:=by rfl)(Y:scope.names.lookup x=some .free:=by rfl)
  (h3:X.env.kindOf x=some .cell\/X.env.kindOf x=some .free:=by first|exact Or.inl rfl|exact Or.inr rfl):Gn X scope (x::NF) (j::ix):=
 ⟨by simp[h.len],λk y e=>by
  cases k with
  |zero=>simp at e;subst e;exact⟨j,rfl,B,Y,h3⟩
  |succ k=>simpa using h.at_ k y cQ!⟩
noncomputable def iA(nl:Nat)(ix:k!)(Z:St):St:=List.replicate nl none++ix.map λj=>(Z[j]?).join
theorem c8e{X:Cx}{O:n!}{Z:St}{H2:Hp}{s2:Shared}{scope:Scope}{cl:bj!}{fp:aq!}
  (ce:da!)(b9:da_)(bz:nu!)(I2:nv!)(f2:nu_)(flt:uT!)(hC:O!<=C):
  (aL X scope cl C N s2 H2 fp).Ok where
 mod:=I2.ok.mod
 kind:=ce
 glob:=I2.ok.glob
 blt:=I2.ok.blt
 above:=hC
 inj:=λx y c B Y=>I2.ok.inj x y c (bz.sub x c B) (bz.sub y c Y)
 has:=λx h=>bz.all x (Wk b9 h)
 cab:=λ_ _ h=>nomatch h
 hd:=I2.ok.hd
 frames:=I2.ok.frames
 stk:=.inl rfl
 exf:=λb J=>⟨BV (BE jo_ hC),λx c h=>(iu_).2.2.2.2.1 x c gM_⟩
 bs:=I2.bs
 bsz:=BN I2.ok.bsz I2.sz
 noex:=λb o e J=>by
  rcases(iu_).2.2.2.1 with z|z
  .exact I2.ok.noex b o e z
  .exact absurd (BE cS! (BN I2.ok.bsz z)) dz_
 exfs:=λb J hf=>by
  obtain⟨_,f1,f3,_⟩:=f2 b J;rcases AD.mp (I2.stkSub b hf)with z|z
  .exact f1 z
  .exact f3 z
 funs:=I2.stack
 frf:=I2.stkFree
theorem b6m{X:Cx}{O:n!}{Z:St}{H2:Hp}{s2:Shared}{scope:Scope}{cl:bj!}{D:Addr}{oD:Obj}{NL:p!}{ix:k!}{fp:aq!}{h₁:Heap}{t:Nat}{m:A!}
  (ce:da!)(b9:da_)(bz:nu!)(cap:c9_)(I2:nv!)(f2:nu_)(flt:uT!)
  (hC:O!<=C)(hD:O!<=D)(jd:D≠C)(ao:∀b u,s2.heap.get? b=some u->h₁.get? b=some u)(hn:h₁.Ns C m)(wy:h₁.get? D=some oD)(wz:∀v,oD.data≠.cell v):
  Inv (aL X scope cl C gN! s2 H2 fp) (db!++[(D,oD)]) nw_ H2 {s2 with heap:=h₁,toks:=t}:=by
 refine⟨c8e ce b9 bz I2 f2 flt hC,rfl,I2.bare,Un.kept ao,⟨m,hn,qI_⟩,λx c h=>?_,I2.hok.fresh hC,λx c h=>I2.freeC x c gM_,ew_,I2.hok.kept ao,?_⟩
 .have KM:gN![i]?=some x:=e1;unfold iA at e2;by_cases hi:i<NL.length
  .rw[CV gA!,GB]at e2;rw[AN hi]at e2;cases e2
  .rw[eU!,BS,FG]at e2;rw[eU!]at KM;obtain⟨j,hj,hN,hf,hk⟩:=cap.at_ _ _ KM;rw[hj]at e2;have vd:(Z[j]?).join=some v:=BZ e2;have e4:Z[j]?=some dB!:=by
    cases q:Z[j]? with
    |none=>rw[q]at vd;cases vd
    |some o=>rw[q]at vd;exact congrArg some vd
   obtain⟨m2,_,hl⟩:=I2.loc;have hv:Vis X.env.scope x:=hk.elim (λz=>.inr jp!) λz=>.inr e5_;obtain⟨u,r,l⟩:=hl j x v hN e4 hv;refine⟨u,r,.inr ?_⟩;rcases l with⟨k,_⟩|⟨_,c,hc,z⟩
   .rcases hk with z|z
    .rw[z]at k;cases k
    .rw[z]at k;cases k
   .obtain⟨c',bp⟩:=bz.all x hf;have e5:=bz.sub x c' bp;rw[hc]at e5;cases e5;obtain⟨o,ho,hd⟩:=z;exact⟨Wl hf,c,bp,⟨o,ao _ _ ho,hd⟩⟩
 .obtain⟨v,o,ho,hd⟩:=I2.cell x c gM_;exact⟨v,o,ao _ _ ho,hd⟩
 .have KN:∀b,b≠X.env.locals->b∉X.fs->b∉frs X.stack:=λb B Y h3=>(AD.mp (I2.stkSub b h3)).elim B Y;have bq:p∈db!++[(D,oD)]:=by simpa[aL]using hp
  rcases AQ.mp bq with bq|bq
  .obtain⟨e,n,ne,nf,d⟩:=I2.pin p bq;exact⟨ao _ _ e,n,BV (BE cS! hC),KN _ ne nf,d⟩
  .have e:p=(D,oD):=by simpa using bq
   subst e;exact⟨wy,I2.hok.fresh hD,jd,KN _ (GL (BE I2.lt hD)) (I2.nofs hD),wz⟩
 .show(nw_).length=(gN!).length;unfold iA;rw[AY,AY,AW,FG,cap.len]
theorem vX{R:sE_}{E:p_}(I:Nat->Shared->Prop)
  (hE:∀e s',E e s'->notedBy n_ A env (λe s'=>R (.error e) s') e s')
  (turn:∀n s,I n s->wpAny n_ A (pyNext it) (λr ai=>match r with
   |none=>R (.ok .next) ai
   |some v=>wpAny n_ A (letOwnedTupleGo ql it v) (λ_ KO=>wpAny n_ A (assign ql env v) (λ_ ak=>
     wpAny n_ A (forIn cn true λc r=>if r=true then do let ok <-isTrue c env (eval c env);pure uV_ else pure jm_) (λok dr=>
      if ok=true then wpAny n_ A (eval db env) (λx ve=>
       wpAny n_ A (call (.builtin "list.append") [acc,x]) (λ_ KP=>∃m,m<n/\I m KP) E ve) E dr
      else∃m,m<n/\I m dr) E ak) E KO) E ai) E s)
  (n:Nat) (h:I n s):codeAny n_ A (.compLoop uW! 0 it acc env) R s:=by
 refine codeAny_loop rfl I (λn s hI=>?_) n h;show wpAny _ A ((compTurn uW! 0 it acc env).onRaise (λx=>do noteFrame x env;theTreesLotGoes x)) _ _ s;refine wpAny_noted ?_;rw[compTurn_list];refine AA (IA (AA (CZ (turn n s hI) (λr ai h₁=>?_) hE)));cases r with
 |none=>exact AC h₁
 |some v=>
  refine AA (CZ h₁ (λ_ KO PV=>?_) hE);refine AA (CZ PV (λ_ ak qo=>AA (CZ qo (λok dr u9=>?_) hE)) hE);cases ok with
  |false=>exact AC ⟨rfl,u9⟩
  |true=>
   exact AA (AA (CZ u9 (λx ve PX=>AA (CZ PX (λ_ KP PY=>AC (AC ⟨rfl,PY⟩)) hE)) hE))
noncomputable def iQ(X:Cx)(cn:bH_)(t:TT):Prop:=
 ∀(O:n!) (s:Shared) (Z:St) (H:Hp) (Q:dC_),Inv X O Z H s->t Z H Q->
  wpAny e_ X.A (forIn cn true λc r=>if r=true then do let ok <-isTrue c X.env (eval c X.env);pure uV_ else pure jm_) jk_ X.xe s
noncomputable def c9t:TT:=λ_ H Q=>Q true H
theorem yJ{X:Cx}:iQ X [] c9t:=λO s Z H Q I h=>wpAny_tests_nil ⟨H,I,h⟩
theorem yI{X:Cx}{t:TT}(h:PT X c t):iQ X [c] t:=λO s Z H Q I hw=>wpAny_tests_one rk!
noncomputable def a8i(ab:It)(g:TG)(tt:TT)(te:TE)(Fin:cW!)(Z:St)(H:Hp):Prop:=∃W:Nat->Nat->List V->St->Hp->Prop,(∃m,W 0 m [] Z H)/\∀i m ys Z H,W i m ys Z H->Z!<=sizeLine/\
 ((ab.stop i H/\Fin ys H)\/(ab.go i H/\∀x H',ab.yld i H x H'->g x Z H' λcy H2=>tt cy H2 λb H3=>if b=true then te cy H3 λy H4=>∃m',m'<m/\W ba! m' (ys++[y]) cy H4 else∃m',m'<m/\W ba! m' ys cy H3))
abbrev zF(us:h!)(n:Nat):Obj:={cls:=.type "list",data:=.seq us.toArray n}
theorem rT{X:Cx}{scope:Scope}{NL:p!}{ix:k!}{cl:bj!}{g:TG}{tt:TT}{te:TE}{E:p_}
  {O:n!}{Z:St}{H2:Hp}{s2:Shared}{fp:aq!}{tn:dI!}{ab:It}{Fin:cW!}{RR:Value->Addr->Result->Shared->Prop}
  (ce:da!)(b9:da_)(bz:nu!)(cap:c9_)(calm:be!)
  (hg:∀C ak a8 fp,PG cd! tg g)(hi:∀C ak a8 fp,iQ cd! cn tt)(he:∀C ak a8 fp,PE cd! db te)
  (I2:nv!)(T:wH X.prog X.w X.K tg ab fp it tn)(bf:tn 0 s2.heap)(f2:nu_)(hw:a8i ab g tt te Fin nw_ H2)
  (PZ:∀(D C:Addr) (us:h!) (n:Nat) (ys:l_) (H':Hp) (s':Shared),Inv X O Z H' s'->s'.heap.get? D=some (zF us n)->Ci ys us->Z!<=sizeLine->H' D=none->O!<=D->O!<=C->D≠C->H' C=none->
   (∃m,s'.heap.Ns C m)->Fin ys H'->RR (.ref D) C (.ok .next) s'):
  wpAny e_ X.A (newList []) (λacc dr=>wpAny e_ X.A (newFunctionEnv scope X.env.globals cl [] X.env.qual none .none (some X.env)) (λKQ ve=>
   codeAny e_ X.A (.compStart gO! 0 b2_ acc {KQ with scope:=relabel scope X.env}) (RR acc KQ.locals) ve) E dr) E s2:=by
 obtain⟨W,⟨m0,w0⟩,turn⟩:=hw;have flt:∀b∈fp,b<O!:=λb J=>let⟨o,e,_⟩:=T.obj _ _ bf b J;BF e;refine DC (wpAny_newFunctionEnv b9 (by intro y hy;simp at hy) (λh₁ xm vf=>?_) ce);dsimp only at xm vf ⊢;generalize xo:s2.heap.push {cls:=.type "list",dict:=none,data:=.seq (uY!).toArray}=G2 at xm vf ⊢;have hC:gO_=O!+1:=by rw[<-xo,GF]
 have jd:O!≠gO_:=by rw[hC];exact BV (HP _)
 have KR:O!<=gO_:=by rw[hC];exact HK _
 have KS:∀b,b<O!->b≠gO_:=λb J=>by rw[hC];exact BV (Nat.lt_succ_of_lt J)
 have ao:∀b o,s2.heap.get? b=some o->h₁.get? b=some o:=λb o e=>vf.extBut b o (KS b cS!) (AG _ (xo▸AG _ e));have QA:h₁.get? O!=some (zF [] 0):=vf.extBut _ _ jd (AG _ (xo▸BD _ rfl));have ow:tn 0 h₁:=T.keep _ _ _ bf λb _ o e=>ao b o e;have I1:=b6m (NL:=NL) (t:=s2.toks+(uZ!).length) ce b9 bz cap I2 f2 flt KR x_ jd ao xm QA uZ_;have lp:∀{H':Hp} {oD:Obj},gn_->∀b∈fp,Qs d5! (db!++[(O!,oD)]) H' b:=λ{H' oD} hn b J=>by
  obtain⟨_,f1,f3,f4,f5,f6⟩:=f2 b J;refine⟨hn b J,KS b jo_,λz=>(AD.mp (I2.stkSub b z)).elim f1 f3,.inl J,λx c h=>f5 x c gM_,ew_⟩;have bq:p∈db!++[(O!,oD)]:=by simpa[aL]using hp
  rcases AQ.mp bq with bq|bq
  .exact f6 p bq
  .have e:p=(O!,oD):=by simpa using bq
   subst e;exact GL jo_
 have KU:∀dr:Shared,dr={s2 with heap:=h₁,toks:=s2.toks+(uZ!).length}->
   codeAny e_ X.A (.compLoop gO! 0 b2_ (.ref O!) (compEnvC scope cl G2.objs.size X.env)) (RR (.ref O!) gO_) dr:=by
  rintro dr rfl;refine vX (E:=u0_) (λk s'=>∃i ys us n hx H',Inv d5! (db!++[jr_]) hx H' s'/\tn i s'.heap/\gn_/\Ci ys us/\W i k ys hx H')
   (λ_ _ z=>z.elim) ?_ m0 ⟨0,[],[],0,_,H2,I1,ow,rV!,.nil,w0⟩
  rintro k s' ⟨i,ys,us,n,hx,H',I',h1,KW,rv,w'⟩;obtain⟨al,xp⟩:=turn i k ys hx H' w';rcases xp with⟨stop,fin⟩|⟨go,step⟩
  .refine Gq (T.done d5! rfl rfl rfl calm i _ s' hx H' _ I' (lp KW) h1 stop) λr s4 ⟨hr,I4⟩=>?_;subst hr;have KY:=I4.pin jr_ (by simp[aL]);have IX:Inv X O Z H' s4:=I2.call' (ch:=fp) I4.os I4.base I4.hok I4.bare λb J=>by
    obtain⟨_,f1,f3,f4,f5,f6⟩:=f2 b J;exact⟨f4,f1,f5,f6⟩
   obtain⟨mC,QB,_⟩:=I4.loc;exact PZ _ _ us n ys H' s4 IX KY.1 rv al KY.2.1 x_ KR jd I4.free ⟨mC,QB⟩ fin
  .refine Gq (T.item d5! rfl rfl rfl calm i _ s' hx H' _ I' (lp KW) h1 go) λr s4 ⟨u,hr,h4⟩=>?_;subst hr;refine Gq h4 λ_ s5 ⟨x,H5,I5,r5,y5,lu,ww⟩=>?_;have wx:=I5.pinned (lp ww) rW!;refine Gq (hg _ _ _ _ _ s5 hx H5 x u _ wx r5 rW_) λ_ s6 ⟨kj,H6,I6,q6⟩=>?_;refine Gq (hi _ _ _ _ _ s6 kj H6 _ I6 q6) λok s7 ⟨H7,I7,q7⟩=>?_;have KZ:∀{LA:St} {H8:Hp} {s8:Shared},Inv d5! ((db!++[jr_])++lH fp s5.heap) LA H8 s8->tn ba! s8.heap/\∀b∈fp,H8 b=none:=λ{LA H8 s8} I8=>by
    refine⟨T.keep _ _ _ lu λb J o e=>(u1!).1,bL!⟩;obtain⟨o,e,d⟩:=T.obj _ _ lu b J;exact(u1!).2.1
   cases ok with
   |false=>
    simp only[BH,BW]at q7 ⊢;obtain⟨m',hm,w7⟩:=q7;obtain⟨t7,n7⟩:=KZ I7;exact⟨m',hm,i+1,ys,us,n,kj,H7,iv_,t7,n7,rv,w7⟩
   |true=>
    simp only[CF]at q7 ⊢;refine Gq (he _ _ _ _ _ s7 kj H7 _ I7 q7) λyv s8 ⟨y,H8,I8,r8,m',hm,w8⟩=>?_;obtain⟨t8,n8⟩:=KZ I8;have pD:=I8.pin jr_ (AS _ (BG _ d_));have QC:ap_=Z!:=rv.length.symm;refine wpAny_list_append_plain (items:=cA_) (hsz:=by simpa[QC]using al) ⟨n,pD.1⟩ λh9 QD LB=>?_;obtain⟨n9,e9⟩:=QD;have QE:Inv d5! db! kj H8 s8:=I8.pins_of λp hp=>I8.pin p (AS _ (BG _ (BG _ hp)));have I9:Inv d5! db! kj H8 {s8 with heap:=h9,toks:=s8.toks}:=by
     refine QE.turned (it:=O!) (λb o J e=>(LB.2 b J).trans e) pD.2.1 jd (.inr x_) (λx c h=>?_) λp hp=>?_
     .obtain⟨v,o,ho,_⟩:=I2.cell x c gM_;exact BV h1!
     .have bq:p∈X.pn++O:=by simpa[aL]using hp
      exact BV (BF (I2.pin p bq).1)
    have QF:h9.get? O!=some (zF (us++[yv]) n9):=by
     rw[e9,List.push_toArray]
    refine⟨m',hm,i+1,ys++[y],us++[yv],n9,kj,H8,I9.pins_of λp hp=>?_,T.keep _ _ _ t8 λb J o e=>(LB.2 b (BV jo_)).trans e,n8,rv.append (.cons r8 .nil),w8⟩;rcases AQ.mp hp with hp|hp
    .exact I9.pin p (AS _ hp)
    .have e:p=(O!,zF (us++[yv]) n9):=by simpa using hp
     subst e;exact⟨QF,pD.2.1,pD.2.2.1,pD.2.2.2.1,jt_⟩
 exact codeAny_compStart_list (KU _ rfl) (T.self _ 0 _ _ _ ow (KU _ rfl))
noncomputable def c3p(nl:Nat)(ix:k!)(wi:TI)(g:TG)(tt:TT)(te:TE):TE:=λZ H Q=>wi Z H λab H1=>a8i ab g tt te (λys H'=>∀p,H' p=none->Q b7! (upd H' p a6!)) (iA nl ix Z) H1
theorem a6r{X:Cx}{scope:Scope}{NL:p!}{ix:k!}{wi:TI}{g:TG}{tt:TT}{te:TE}
  (ce:da!)(b9:da_)(jy:∀y∈cb_,y.2=.local->scope.names.lookup y.1=some .local)
  (g9:gR!)(cap:c9_)(calm:be!)(bd:mc!)
  (hg:gR_)(hi:u3!)(he:u3_)
  (hs:c2!:=by intro _;rfl):
  PE X gO! u4!:=by
 show"!H";show"!R"
 rw[eval_ListComp];refine wpAny_comprehension_free (use:=none) rfl hs bz.eq ce jy u4_;obtain⟨it,fp,tn,ab,H2,e,I2,T,bf,f2,hw⟩:=Y;subst e;refine rT (RR:=λacc C=>compPost e_ X.A X.xe none aH_ acc C) ce b9 bz cap calm (hg cl) (hi cl) (he cl) I2 T bf f2 hw λD C us n ys H' s' I' eD rv al nD hD hC jd nC ⟨m,hn⟩ fin=>?_;refine⟨m,hn,λh' br=>?_⟩;have fg:∀b,b<O!->b≠C/\b≠D:=λb J=>u6_;have ox:∀x c,X.env.cells.lookup x=some c->c<O!:=λx c h=>let⟨_,_,ho,_⟩:=I2.cell x c h;BF ho;have qu:∀p∈X.pn++O,p.1<O!:=λp hp=>BF (I2.pin p hp).1;have IC:Inv X O Z H' {s' with heap:=h',toks:=s'.toks}:=I'.turned (it:=C) u7_ nC (AI (gS_).1) u8! u9! λp hp=>(ju!).1;have ID:=IC.track (D:=D) (us:=us) (n:=n) ((br.2 D jd).trans eD) rv al nD (BN I2.sz hD) (AI (gS_).2) u9_ λp hp=>(ju!).2;exact⟨.ref D,_,ID,rfl,fin D nD⟩
end L2
namespace DL
open PySem PySem.Spec PyProof.Rows L2
abbrev St:=L2.St
inductive D where
 |non|bl (b:Bool)|int (i:Int)|str (x:Str)|tup (xs:b!)|lst (xs:b!)|fn (a:Addr)|dk (kvs:nE!)
mutual
noncomputable def Bn(K:W.Frag)(H:Hp):D->V->Prop
 |.non,v=>v=V.non
 |.bl b,v=>v=V.bl b
 |.int i,v=>v=V.int i
 |.str x,v=>v=V.str x
 |.tup xs,v=>∃a vs,v=V.ref a/\Lp K H a vs/\Bb K H xs vs
 |.lst xs,v=>∃a vs,v=V.ref a/\Kw K H a vs/\Bb K H xs vs
 |.fn a,v=>v=V.ref a
 |.dk kvs,v=>∃a,v=V.ref a/\Rd H a dO!
noncomputable def Bb(K:W.Frag)(H:Hp):List D->List V->Prop
 |[],vs=>vs=[]
 |d::ds,vs=>∃v r,vs=v::r/\Bn K H d v/\Bb K H ds r
end
mutual
noncomputable def Iv:D->Bool
 |.lst _=>false
 |.dk _=>false
 |.tup xs=>Kk xs
 |_=>true
noncomputable def Kk:List D->Bool
 |[]=>true
 |d::ds=>Iv d&&Kk ds
end
mutual
noncomputable def Ot:D->Nat
 |.lst xs=>Gz xs+1
 |.tup xs=>Gz xs+1
 |_=>0
noncomputable def Gz:List D->Nat
 |[]=>0
 |d::ds=>max (Ot d) (Gz ds)
end
section
variable{K:W.Frag}{H H':Hp}
mutual
theorem Bn.map(ht:ju_)(hl:vb!)(hd:vb_):∀(d:D) (v:V),Bn K H d v->Bn K H' d v
 |.non,_,h=>h
 |.bl _,_,h=>h
 |.int _,_,h=>h
 |.str _,_,h=>h
 |.tup xs,_,h=>by
  show"!U";exact⟨a,vs,e,ht a vs q,vc!⟩
 |.lst xs,_,h=>by
  show"!U";exact⟨a,vs,e,hl a vs q,vc!⟩
 |.fn _,_,h=>h
 |.dk kvs,_,h=>by
  unfold Bn at h ⊢;obtain⟨a,e,q⟩:=h;exact⟨a,e,hd a kvs q⟩
theorem Bb.map(ht:ju_)(hl:vb!)(hd:vb_):∀(ds:b!) (vs:l_),Bb K H ds vs->Bb K H' ds vs
 |[],_,h=>h
 |d::ds,_,h=>by
  unfold Bb at h ⊢;obtain⟨v,r,e,q,t⟩:=h;exact⟨v,r,e,Bn.map ht hl hd d v q,Bb.map ht hl hd ds r t⟩
end
mutual
theorem Bn.mapT(ht:ju_):∀(d:D) (v:V),Iv d=true->Bn K H d v->Bn K H' d v
 |.non,_,_,h=>h
 |.bl _,_,_,h=>h
 |.int _,_,_,h=>h
 |.str _,_,_,h=>h
 |.tup xs,_,n,h=>by
  unfold Iv at n;show"!U";exact⟨a,vs,e,ht a vs q,Bb.mapT ht xs vs n r⟩
 |.lst xs,_,n,_=>by
  unfold Iv at n;cases n
 |.fn _,_,_,h=>h
 |.dk _,_,n,_=>by
  unfold Iv at n;cases n
theorem Bb.mapT(ht:ju_):∀(ds:b!) (vs:l_),Kk ds=true->Bb K H ds vs->Bb K H' ds vs
 |[],_,_,h=>h
 |d::ds,_,n,h=>by
  unfold Kk at n;rw[BI]at n;unfold Bb at h ⊢;obtain⟨v,r,e,q,t⟩:=h;exact⟨v,r,e,Bn.mapT ht d v n.1 q,Bb.mapT ht ds r n.2 t⟩
end
theorem Dj(e:e2_){a:Addr}(h:Lp K H a xs):Lp K H' a xs:=by
 rcases h with(h|⟨o,h⟩)|h
 .exact uJ_
 .exact uK!
 .exact .inr h
theorem a5u(e:e2_){a:Addr}{o:HO}(h:Rd H a o):Rd H' a o:=by
 rcases h with h|⟨u,h⟩
 .exact .inl (e _ _ h)
 .exact .inr ⟨u,e _ _ h⟩
theorem Bn.mono(e:e2_)(h:gU!):Bn K H' d v:=Bn.map vd_ ve! ve_ d v h
theorem Bb.mono(e:e2_)(h:cB!):Bb K H' ds vs:=Bb.map vd_ ve! ve_ ds vs h
theorem Bn.non:Bn K H .non V.non:=by unfold Bn;rfl
theorem Bn.bl{b:Bool}:Bn K H bI_ (V.bl b):=by unfold Bn;rfl
theorem Bn.int{i:Int}:Bn K H bv_ (V.int i):=by unfold Bn;rfl
theorem Bn.str:Bn K H dE_ (V.str x):=by unfold Bn;rfl
theorem Bn.fn{a:Addr}:Bn K H cB_ e8_:=by unfold Bn;rfl
theorem Bn.tup{a:Addr}(h:Lp K H a vs)(r:cB!):Bn K H dc_ e8_:=by unfold Bn;exact vf!
theorem Bn.lst{a:Addr}(h:Kw K H a vs)(r:cB!):Bn K H cd_ e8_:=by unfold Bn;exact vf!
theorem Bb.nil:Bb K H [] []:=by unfold Bb;rfl
theorem Bb.cons(h:gU!)(t:cB!):Bb K H d7! (v::vs):=by unfold Bb;exact⟨v,vs,rfl,h,t⟩
theorem Ar:∀{ds:b!} {vs:l_},Bb K H ds vs->f_=bz!
 |[],vs,h=>by unfold Bb at h;subst h;rfl
 |d::ds,vs,h=>by
  unfold Bb at h;obtain⟨v,r,e,_,t⟩:=h;rw[e,AR,AR,Ar t]
theorem Qa:∀{ds:b!} {vs:l_} {i:Nat} {d:D},Bb K H ds vs->ds[i]?=some d->∃v,vs[i]?=some v/\Bn K H d v
 |[],_,_,_,_,e=>by simp at e
 |c::ds,vs,i,d,h,e=>by
  unfold Bb at h;obtain⟨v,r,e1,q,t⟩:=h;subst e1;cases i with
  |zero=>simp at e;subst e;exact⟨v,rfl,q⟩
  |succ i=>
   obtain⟨u,B,Y⟩:=Qa (i:=i) (d:=d) t cQ!;exact⟨u,hS_,Y⟩
theorem Gb:∀{ds es:b!} {vs ws:l_},Bb K H ds vs->Bb K H es ws->Bb K H (ds++es) (vs++ws)
 |[],_,_,_,h,k=>by unfold Bb at h;subst h;exact k
 |c::ds,_,vs,_,h,k=>by
  show"!M";exact Bb.cons q (Gb t k)
theorem eF:∀{ds:b!} {vs:l_} (n:Nat),Bb K H ds vs->Bb K H (ds.take n) (vs.take n)
 |_,_,0,_=>Bb.nil
 |[],_,n+1,h=>by unfold Bb at h;subst h;exact Bb.nil
 |c::ds,vs,n+1,h=>by
  show"!M";exact Bb.cons q (eF n t)
theorem eG:∀{ds:b!} {vs:l_} (n:Nat),Bb K H ds vs->Bb K H nF! (vs.drop n)
 |_,_,0,h=>h
 |[],_,n+1,h=>by unfold Bb at h;subst h;exact Bb.nil
 |c::ds,vs,n+1,h=>by
  show"!M";exact eG n t
theorem kX(hd:gU!):∀{ds:b!} {vs:l_} (n:Nat),Bb K H ds vs->Bb K H (ds.set n d) (vs.set n v)
 |[],_,_,h=>by unfold Bb at h;subst h;exact Bb.nil
 |c::ds,vs,n,h=>by
  unfold Bb at h;obtain⟨u,r,e1,q,t⟩:=h;subst e1;cases n with
  |zero=>exact Bb.cons hd t
  |succ n=>exact Bb.cons q (kX hd n t)
theorem Fp(h:Bb K H [] vs):vs=[]:=by unfold Bb at h;exact h
theorem Dg(h:Bb K H d7! vs):∃v r,vs=v::r/\Bn K H d v/\Bb K H ds r:=by unfold Bb at h;exact h
theorem Da(h:Bn K H dc_ v):∃a vs,v=V.ref a/\Lp K H a vs/\Bb K H ds vs:=by unfold Bn at h;exact h
theorem De(h:Bn K H cd_ v):∃a vs,v=V.ref a/\Kw K H a vs/\Bb K H ds vs:=by unfold Bn at h;exact h
theorem By{i:Int}(h:Bn K H bv_ v):v=V.int i:=by unfold Bn at h;exact h
theorem Fk{i:Bool}(h:Bn K H (.bl i) v):v=V.bl i:=by unfold Bn at h;exact h
theorem Du(h:Bn K H jw_ v):v=V.str i:=by unfold Bn at h;exact h
theorem Iz(h:Bn K H .non v):v=V.non:=by unfold Bn at h;exact h
theorem Ly{a:Addr}(h:Bn K H cB_ v):v=V.ref a:=by unfold Bn at h;exact h
theorem c5n{kvs:nE!}(h:Bn K H (.dk kvs) v):∃a,v=V.ref a/\Rd H a dO!:=by unfold Bn at h;exact h
theorem Pz{o:HO}(h:cC!):Cv H e9!:=λb u e=>by rw[Bt (Ej e h)];exact e
theorem Ll(h:cC!)(r:cB!):Bn K (upd H p (.tup vs)) dc_ nF_:=Bn.tup (Lp.of Dq) vg_
theorem Fi(h:cC!)(r:cB!):Bn K jx! cd_ nF_:=Bn.lst (Kw.of Dq) vg_
end
structure Ev(G H G' H':Hp):Prop where
 g:Cv G G'
 h:Cv H H'
 sub:Cv G' H'
 new:∀b,G' b≠none->G b≠none\/H b=none
theorem Ev.refl{G H:Hp}(s:M_):Ev G H G H:=⟨e9_,Cv.refl H,s,jx_⟩
theorem Ev.trans{G H G1 H1 G2 H2:Hp}(a:Ev G H G1 H1)(b:Ev G1 H1 G2 H2):Ev G H G2 H2:=
 ⟨a.g.trans b.g,a.h.trans b.h,b.sub,λc h=>(b.new c h).elim (λz=>a.new c z) λz=>.inr (a.h.free z)⟩
theorem Ev.laid{G H:Hp}{o:HO}(s:M_)(hp:cC!):Ev G H (upd G p o) e9!:=by
 refine⟨Pz (s.free hp),Pz hp,jz!,bl!⟩
 .by_cases J:b=p
  .subst J;rw[Dq]at e ⊢;exact e
  .rw[Bt J]at e ⊢;exact s b u e
 .by_cases J:b=p
  .subst J;exact .inr hp
  .rw[Bt J]at h;exact .inl h
abbrev Ag:=List (Option D)
structure OR(K:W.Frag)(own:k!)(G H:Hp)(Z:St)(ρ:Ag):Prop where
 sub:Cv G H
 len:gU_=fW!
 at_:∀(i:Nat) (d:D),ρ[i]?=some d8_->i∉own->∃v,Z[i]?=some dB!/\Bn K G d v
 own_:∀i∈own,∃p ds vs,ρ[i]?=some nH_/\Z[i]?=some ce_/\H p=some dd!/\G p=none/\Bb K G ds vs
 dis:∀i∈own,∀j∈own,i≠j->∀p q,Z[i]?=some ce_->Z[j]?=some (some (V.ref q))->p≠q
theorem OR.grow{K:W.Frag}{own:k!}{G H G' H':Hp}{Z:St}{ρ:Ag}(h:cf!)(x:jz_):OR K own G' H' Z ρ where
 sub:=x.sub
 len:=h.len
 at_:=λi d q n=>let⟨v,B,Y⟩:=h.at_ i d q n;vh_
 own_:=λi hi=>by
  obtain⟨p,ds,vs,B,Y,h3,h4,h5⟩:=h.own_ i hi;refine⟨p,ds,vs,B,Y,x.h _ _ h3,?_,h5.mono x.g⟩;cases q:G' p with
  |none=>rfl
  |some o=>
   rcases x.new p ca! with z|z
   .exact absurd h4 z
   .rw[h3]at z;cases z
 dis:=h.dis
theorem OR.set{K:W.Frag}{own:k!}{G H:Hp}{Z:St}{ρ:Ag}{i:Nat}(h:cf!)(hi:bl_)(r:cD!):OR K own G H ex_ cf_ where
 sub:=h.sub
 len:=by rw[EE,EE,h.len]
 at_:=λj c q n=>by
  by_cases hj:i=j
  .subst hj;by_cases hi:i<gU_
   .rw[CO hi]at q;cases q;exact⟨v,by rw[CO (by rw[<-h.len];exact hi)],r⟩
   .rw[CJ (by rw[EE];omega)]at q;cases q
  .rw[BP hj]at q;rw[BP hj];exact h.at_ j c q n
 own_:=λj hj=>by
  have ne:i≠j:=λe=>hi (e▸hj);rw[BP ne,BP ne];exact h.own_ j hj
 dis:=λj hj k hk b7 p q e1 e2=>by
  have ne:i≠j:=λe=>hi (e▸hj);have QG:i≠k:=λe=>hi (e▸hk);rw[BP ne]at e1;rw[BP QG]at e2;exact h.dis j hj k hk b7 p q e1 e2
noncomputable def Sc(own:k!)(Z:St):List Addr:=own.filterMap λi=>match Z[i]? with|some (some (V.ref p))=>some p|_=>none
theorem Ya{own:k!}{Z:St}(h:p∈Sc own Z):∃i∈own,Z[i]?=some ce_:=by
 obtain⟨i,hi,e⟩:=FB.mp h;refine⟨i,hi,?_⟩;show"!7"
 .rename_i q he;cases e;exact he
 .cases e
theorem xN{own:k!}{Z:St}{i:Nat}(hi:d9!)(h:vj_):p∈Sc own Z:=FB.mpr ⟨i,hi,by rw[h]⟩
noncomputable def Uv(own:k!)(Z:St)(G H:Hp):Hp:=λb=>if b∈Sc own Z then H b else G b
theorem OR.full{K:W.Frag}{own:k!}{G H:Hp}{Z:St}{ρ:Ag}(h:cf!):OR K [] fa! H Z ρ:=by
 have s1:Cv G fa!:=λb o e=>by
  unfold Uv;split
  .exact h.sub b o e
  .exact e
 have s2:Cv fa! H:=λb o e=>by
  unfold Uv at e;show"!7"
  .exact e
  .exact h.sub b o e
 refine⟨s2,h.len,nI_,am_,am_⟩;by_cases hi:i∈own
 .obtain⟨p,ds,vs,B,Y,h3,h4,h5⟩:=h.own_ i hi;rw[B]at q;cases q;refine⟨_,Y,Bn.lst (Kw.of (xs:=vs) ?_) (h5.mono s1)⟩;unfold Uv;rw[AN (xN hi Y)];exact h3
 .obtain⟨v,B,Y⟩:=h.at_ i d q hi;exact⟨v,B,Y.mono s1⟩
noncomputable def Le(ρ ρ':Ag):Prop:=gU_=ρ'.length/\∀(i:Nat) (d:D),ρ[i]?=some d8_->ρ'[i]?=some d8_
theorem OR.le{K:W.Frag}{G H:Hp}{Z:St}{ρ ρ':Ag}(h:OR K [] G H Z ρ')(l:Le ρ ρ'):OR K [] G H Z ρ:=⟨h.sub,l.1.trans h.len,λi d q n=>h.at_ i d (l.2 i d q) n,am_,am_⟩
theorem Le.set{ρ ρ':Ag}{i:Nat}(h:Le ρ ρ')(hi:ρ[i]?=some none):Le ρ (ρ'.set i d8_):=by
 refine⟨by rw[EE];exact h.1,λj c q=>?_⟩;have:i≠j:=λe=>by subst e;rw[hi]at q;cases q
 rw[BP this];exact h.2 j c q
theorem Le.refl(ρ:Ag):Le ρ ρ:=⟨rfl,λ_ _ h=>h⟩
noncomputable def b8a(nl:Nat)(ix:k!)(ρ:Ag):Ag:=List.replicate nl none++ix.map λj=>(ρ[j]?).join
theorem OR.cap{K:W.Frag}{own:k!}{G H:Hp}{Z:St}{ρ:Ag}(h:cf!)(nl:Nat)(ix:k!)(L:jA_):OR K [] G H (iA nl ix Z) nJ_:=by
 unfold iA b8a;refine⟨h.sub,I!,nI_,am_,am_⟩;by_cases hi:i<nl
 .rw[CV gA!,GB,AN hi]at q;cases q
 .rw[eU!,BS,FG]at q;rw[eU!,BS,FG];cases e:ix[i - nl]? with
  |none=>rw[e]at q;cases q
  |some j=>
   rw[e]at q;have q':(ρ[j]?).join=some d:=BZ q;have q2:ρ[j]?=some d8_:=by
    cases z:ρ[j]? with
    |none=>rw[z]at q';cases q'
    |some o=>rw[z]at q';exact congrArg some q'
   obtain⟨v,B,Y⟩:=h.at_ j d q2 (L j (GO e));exact⟨v,by simp[B],Y⟩
inductive tD(K:W.Frag)(own:k!)(f:e!)(Z:St)(H:Hp)(Q:VK):Prop
 |mk (G:Hp) (ρ:Ag) (d:D) (o:cf!) (e:cg!) (k:∀v G' H',Ev G H G' H'->Bn K G' d v->Q v H'):tD K own f Z H Q
inductive taD(K:W.Frag)(own:k!)(f:an!)(Z:St)(H:Hp)(Q:cW!):Prop
 |mk (G:Hp) (ρ:Ag) (ds:b!) (o:cf!) (e:f ρ=some ds) (k:∀vs G' H',Ev G H G' H'->Bb K G' ds vs->Q vs H'):taD K own f Z H Q
inductive ttD(K:W.Frag)(own:k!)(f:aa!)(Z:St)(H:Hp)(Q:dC_):Prop
 |mk (G:Hp) (ρ:Ag) (b:Bool) (o:cf!) (e:f ρ=some b) (k:∀G' H',Ev G H G' H'->Q b H'):ttD K own f Z H Q
structure DE(X:Cx)(own:k!)(e:Expr)(f:e!):Prop where
 ok:PE X e (tD X.K own f)
structure DA(X:Cx)(own:k!)(es:bH_)(f:an!):Prop where
 ok:PA X es (taD X.K own f)
structure DT(X:Cx)(own:k!)(e:Expr)(f:aa!):Prop where
 ok:PT X e vk_
structure DW(X:Cx)(own:k!)(e:Expr)(f:aa!):Prop where
 ok:PW X e vk_
section
variable{X:Cx}{own:List Nat}{e a b c:Expr}{es:List Expr}{pos:Pos}{f fa fb fc:Ag->Option D}{fs:Ag->Option (List D)}{ft fu:Ag->Option Bool}
theorem Im{t:TE}(h:ib_)(hw:∀Z G H Q ρ d,OR X.K own G H Z ρ->f ρ=some d->(∀v G' H',Ev G H G' H'->Bn X.K G' d v->Q v H')->t Z H Q):DE X own e f:=vl!
theorem b7r{t:TA}(h:gx!)(hw:∀Z G H Q ρ d,OR X.K own G H Z ρ->fs ρ=some d->(∀v G' H',Ev G H G' H'->Bb X.K G' d v->Q v H')->t Z H Q):DA X own es fs:=⟨λp O s Z H Q I ⟨G,ρ,d,er,e,k⟩=>h p O s Z H Q I nK_⟩
theorem nL{t:TT}(h:PT X e t)(hw:vl_):DT X own e ft:=vl!
theorem c4n{t:TT}(h:PW X e t)(hw:vl_):DW X own e ft:=⟨λwh O s Z H Q I ⟨G,ρ,d,er,e,k⟩=>h wh O s Z H Q I nK_⟩
noncomputable def cS(f:e!):Ag->Option D:=λρ=>(aj!).bind λd=>if Iv d then some d else none
theorem a7x(h:DE X [] e f):DE X own e (cS f):=Im h.ok λZ G H Q ρ d er e k=>by
 obtain⟨d',e1,e2⟩:=AB.mp e;split at e2
 .rename_i hn;cases e2;refine⟨Uv own Z G H,ρ,d,er.full,e1,λv G' H' x r=>?_⟩;have QH:∀b,b∈Sc own Z->∃vs,G' b=some dd!:=λb J=>by
   show"!N";refine⟨vs,x.g _ _ ?_⟩;unfold Uv;rw[AN J];exact h3
  have hG:∀b,b∈Sc own Z->G b=none:=λb J=>by
   show"!N";exact h4
  refine k v (λb=>if b∈Sc own Z then none else G' b) H' ⟨λb o z=>?_,x.h,λb o z=>?_,λb z=>?_⟩ (Bn.mapT (λa vs q=>?_) d v hn r)
  .have J:b∉Sc own Z:=λJ=>by rw[hG b J]at z;cases z
   show nN_=some o;rw[AH J];refine x.g _ _ ?_;unfold Uv;rw[AH J];exact z
  .have z':nN_=some o:=z;split at z'
   .cases z'
   .exact x.sub _ _ z'
  .have z':nN_≠none:=z;split at z'
   .exact absurd rfl z'
   .rename_i J;rcases x.new b z' with y|y
    .unfold Uv at y;rw[AH J]at y;exact .inl y
    .exact .inr y
  .have ne:∀u,G' a=some u->(∀ws,u≠.lst ws)->(if a∈Sc own Z then none else G' a)=some u:=λu e1 hu=>by
    rw[AH (λJ=>by obtain⟨ws,e2⟩:=QH a J;rw[e1]at e2;exact hu ws (BZ e2))];exact e1
   rcases q with(q|⟨o,q⟩)|q
   .exact .inl (.inl (ne _ q λ_ z=>nomatch z))
   .exact .inl (.inr ⟨o,ne _ q λ_ z=>nomatch z⟩)
   .exact .inr q
 .cases e2
noncomputable def Aa(i:Nat):Ag->Option D:=λρ=>(ρ[i]?).join
noncomputable def fC(d:D):Ag->Option D:=λ_=>some d
theorem join_some{ρ:Ag}{i:Nat}(h:(ρ[i]?).join=some d):ρ[i]?=some d8_:=by
 cases z:ρ[i]? with
 |none=>rw[z]at h;cases h
 |some o=>rw[z]at h;exact congrArg some h
theorem Ab(i:Nat){x:Str}(hi:bl_:=by decide)(hN:ak_:=by rfl)(hv:cX_:=by first|exact Or.inl rfl|exact Or.inr b_|exact Or.inr bm!)(hd:G!:=by decide)
  (bv:cY!:=by decide):DE X own cY_ (Aa i):=
 Im jB_ λZ G H Q ρ d er e k=>let⟨v,B,Y⟩:=er.at_ i d (join_some e) hi;⟨v,B,k v G H fa_ Y⟩
theorem b7q{t:TE}(h:ib_)(ht:∀Z H Q,Q v H->t Z H Q)(r:∀H,Bn X.K H d v):DE X own e (fC d):=
 Im h λZ G H Q ρ d' er e' k=>by
  cases e';exact ht Z H Q (k v G H fa_ (r G))
theorem Ae{i:Int}{j:Nat}:DE X own rc_ (fC bv_):=b7q b4p gX_ λ_=>Bn.int
theorem Bi{j:Nat}:DE X own (.Constant jw_ j pos) (fC jw_):=b7q a3b gX_ λ_=>Bn.str
theorem Kd{i:Bool}{j:Nat}:DE X own (.Constant (.bool i) j pos) (fC (.bl i)):=b7q d1c gX_ λ_=>Bn.bl
theorem Gv{j:Nat}:DE X own re! cg_:=b7q c6b gX_ λ_=>Bn.non
theorem c2r{x:Str}{i:Int}(hg:R_)(hm:X.mg x=some dx_)(hd:G!:=by decide):DE X own cY_ (fC bv_):=
 b7q (c0t (v:=V.int i) hg hm nk! hd) gX_ λ_=>Bn.int
noncomputable def f2(g:aV_)(fa fb:e!):Ag->Option D:=λρ=>(fb!).bind λx=>(jC_).bind λy=>g x y
noncomputable def Po(K:W.Frag)(r:R2)(g:aV_):Prop:=∀{x y:V} {dx dy d:D} {G H:Hp} {Q:VK},Cv G H->Bn K G dx x->Bn K G dy y->g dx dy=some d->jD!->r x y H Q
theorem two{g:aV_}{r:R2}(hg:eb_){Z:St}{G H:Hp}{Q:VK}{ρ:Ag}(er:OR X.K own G H Z ρ)(e:f2 g fa fb ρ=some d)(k:∀v G' H',Ev G H G' H'->Bn X.K G' d v->Q v H'):
  tOp r (tD X.K own fa) (tD X.K own fb) Z H Q:=by
 unfold f2 at e;show"!<";obtain⟨y,e2,e⟩:=AB.mp e;exact⟨G,ρ,x,er,e1,λu G1 H1 s1 r1=>⟨G1,ρ,y,de!,e2,λw G2 H2 s2 r2=>hg s2.sub gY! r2 e λv G' H' s3 r3=>k v G' H' (s1.trans gY_) r3⟩⟩
theorem Bv{op:Operator}{r:R2}{g:aV_}(ho:me!)(hg:eb_)(ha:W_)(J:cD_):DE X own me_ jD_:=
 Im vp_ λZ G H Q ρ d er e k=>two hg er e k
theorem Li{op:CmpOp}{r:R2}{g:aV_}(ho:b6_)(hg:eb_)(ha:W_)(J:cD_)(hm:dF!):DE X own dG! jD_:=
 Im vq! λZ G H Q ρ d er e k=>two hg er e k
theorem Av{r:R2}{g:aV_}(hr:i0_)(hg:eb_)(ha:W_)(J:cD_)(hs:jK b):DE X own m5_ jD_:=
 Im vq_ λZ G H Q ρ d er e k=>two hg er e k
noncomputable def fT(f:e!):Ag->Option Bool:=λρ=>(aj!).bind λd=>match d with|.bl b=>some b|_=>none
theorem Tz{ρ:Ag}{b:Bool}(h:fT f ρ=some b):f ρ=some bI_:=by unfold fT at h;obtain⟨d,e,h⟩:=AB.mp h;cases d<;>first|(cases h;exact e)|cases h
theorem Co{op:CmpOp}{r:R2}{g:aV_}(ho:b6_)(hg:eb_)(ha:W_)(J:cD_)(hm:dF!):DT X own dG! (fT jD_):=
 nL vr! λZ G H Q ρ d er e k=>two (own:=own) (Q:=vr_) hg er (Tz e) λv G' H' s' r'=>by
  cases Fk r';exact vs!
theorem Lg(h:de_)(he:ic!:=by intro _;rfl):DT X own e (fT f):=
 nL (b3t h.ok he) λZ G H Q ρ d er e k=>⟨G,ρ,.bl d,er,Tz e,λv G' H' s' r'=>by
  cases Fk r';exact vs!⟩
noncomputable def a8r:D->Option Bool
 |.lst xs=>some (! dN_)
 |.tup xs=>some (! dN_)
 |.bl b=>some b
 |.int i=>some gr!
 |.non=>some false
 |_=>none
theorem gX{K:W.Frag}{H:Hp}{ds:b!}{vs:l_}(h:cB!):(!ds.isEmpty)=!vs.isEmpty:=by have:=Ar h;cases ds<;>cases vs<;>simp_all
theorem a0k(h:de_)(he:ic!:=by intro _;rfl):DT X own e (λρ=>(aj!).bind a8r):=
 nL (b3u h.ok he) λZ G H Q ρ b er e k=>by
  obtain⟨d,e1,e2⟩:=AB.mp e;refine⟨G,ρ,d,er,e1,λv G' H' s' r'=>⟨b,?_,nS_⟩⟩;cases d with
  |non=>cases Iz r';cases e2;exact(rfl:false=false)
  |bl x=>cases Fk r';cases e2;exact rfl
  |int i=>cases By r';cases e2;exact(rfl:gr!=gr!)
  |str x=>cases e2
  |fn a=>cases e2
  |dk a=>cases e2
  |tup xs=>
   obtain⟨a,vs,e3,q,r3⟩:=Da r';subst e3;cases e2;exact .inr (.inl ⟨vs,Dj s'.sub q,gX r3⟩)
  |lst xs=>
   obtain⟨a,vs,e3,q,r3⟩:=De r';subst e3;cases e2;exact .inl ⟨vs,s'.sub.seq q,gX r3⟩
noncomputable def Fx(ft fu:aa!):Ag->Option Bool:=λρ=>(gZ!).bind λb=>if b then fu ρ else some false
noncomputable def Ye(ft fu:aa!):Ag->Option Bool:=λρ=>(gZ!).bind λb=>if b then some true else fu ρ
noncomputable def Gd(ft:aa!):Ag->Option Bool:=λρ=>(gZ!).map (!·)
variable{rest:List Expr}
theorem cX(h:gZ_):DW X own lQ_ ft:=vs_
theorem fJ(h:gZ_):DW X own lR! ft:=vt_
theorem nJ(ha:gZ_)(J:DW X own eA! fu):DW X own eA_ (Fx ft fu):=
 c4n vu! λZ G H Q ρ d er e k=>by
  obtain⟨x,e1,e⟩:=AB.mp e;refine nT_;cases x with
  |true=>exact Ww vu_
  |false=>cases e;exact Wx (k G1 H1 s1)
theorem rQ(ha:gZ_)(J:DW X own eB! fu):DW X own eB_ (Ye ft fu):=
 c4n vv! λZ G H Q ρ d er e k=>by
  obtain⟨x,e1,e⟩:=AB.mp e;refine nT_;cases x with
  |false=>exact Wx vu_
  |true=>cases e;exact Ww (k G1 H1 s1)
theorem nK(h:DW X own e ft):DT X own e ft:=⟨h.ok.pt⟩
theorem Nf(h:gZ_):DT X own eC! (Gd ft):=
 nL (b3v h.ok) λZ G H Q ρ d er e k=>by
  obtain⟨x,e1,rfl⟩:=AL.mp e;exact⟨G,ρ,x,er,e1,λG1 H1 s1=>k G1 H1 s1⟩
noncomputable def Fq(fa fb:e!):Ag->Option D:=λρ=>(nV!).bind λb=>if b then fb ρ else some Y_
noncomputable def Js(fa fb:e!):Ag->Option D:=λρ=>(nV!).bind λb=>if b then some C_ else fb ρ
noncomputable def Hv(fa:e!):Ag->Option D:=λρ=>(nV!).map λb=>.bl (!b)
theorem Pb{op:BoolOp}(h:W_):DE X own lR_ fa:=vv_
theorem Uc(ha:W_)(J:DE X own eA! fb):DE X own eA_ (Fq fa fb):=
 Im vw! λZ G H Q ρ d er e k=>by
  obtain⟨x,e1,e⟩:=AB.mp e;refine nV_;cases Fk r1;refine jE!;cases x with
  |true=>exact Ww jE_
  |false=>cases e;exact Wx vx_
theorem rR(ha:W_)(J:DE X own eB! fb):DE X own eB_ (Js fa fb):=
 Im vy! λZ G H Q ρ d er e k=>by
  obtain⟨x,e1,e⟩:=AB.mp e;refine nV_;cases Fk r1;refine jE!;cases x with
  |false=>exact Wx jE_
  |true=>cases e;exact Ww vx_
theorem c8b(ha:W_):DE X own eC! (Hv fa):=
 Im (b4l ha.ok) λZ G H Q ρ d er e k=>by
  obtain⟨x,e1,rfl⟩:=AL.mp e;refine nV_;cases Fk r1;exact⟨x,rfl,vy_⟩
noncomputable def Yf(ft:aa!)(fa fb:e!):Ag->Option D:=λρ=>(gZ!).bind λb=>if b then fa ρ else fb ρ
theorem d2q(hc:DT X own c ft)(ha:W_)(J:cD_):DE X own lS_ (Yf ft fa fb):=
 Im vz! λZ G H Q ρ d er e k=>by
  obtain⟨x,e1,e⟩:=AB.mp e;refine nT_;cases x with
  |true=>exact Ww jE_
  |false=>exact Wx jE_
noncomputable def f3(g h:aV_)(fa fb fc:e!):Ag->Option D:=λρ=>(fb!).bind λx=>(jC_).bind λy=>(g x y).bind λz=>match z with
 |.bl true=>(fc ρ).bind λw=>h y w
 |.bl false=>some Y_
 |_=>none
noncomputable def Ao:Ag->Option aL_:=λ_=>some []
noncomputable def Ad(f:e!)(fs:an!):Ag->Option aL_:=λρ=>(aj!).bind λd=>(fb_).bind λds=>some d7!
theorem Aw:DA X own [] Ao:=b7r Mx λZ G H Q ρ d er e k=>by
 cases e;exact k [] G H fa_ Bb.nil
theorem Ai(h:de_)(hs:jF!)(bx:al_:=by rfl):DA X own aI_ (Ad f fs):=
 b7r vz_ λZ G H Q ρ d er e' k=>by
  obtain⟨x,e1,e'⟩:=AB.mp e';obtain⟨xs,e2,e'⟩:=AB.mp e';cases e';exact⟨G,ρ,x,er,e1,λv G1 H1 s1 r1=>⟨G1,ρ,xs,de!,e2,λvs G2 H2 s2 r2=>k _ G2 H2 df! (Bb.cons gY! r2)⟩⟩
noncomputable def Cf(fs:an!):Ag->Option D:=λρ=>(fb_).bind λds=>if f_<=1000 then some dc_ else none
noncomputable def Hw(fs:an!):Ag->Option D:=λρ=>(fb_).bind λds=>if f_<=1000 then some cd_ else none
theorem Mf{n:Nat}(h:n<=1000):n<=sizeLine:=FW (a8t h)
theorem Gk{x1:Nat}(h:jF!):DE X own s0_ (Cf fs):=
 Im (b4i h.ok) λZ G H Q ρ d er e k=>by
  show"!I"
  .show"!D";refine⟨G,ρ,ds,er,e1,λvs G1 H1 s1 r1=>⟨vA!,λp hp=>k _ _ _ vA_ (Ll vB! r1)⟩⟩
  .cases e
theorem fL(h:jF!):DE X own iM_ (Hw fs):=
 Im jF_ λZ G H Q ρ d er e k=>by
  show"!I"
  .show"!D";refine⟨G,ρ,ds,er,e1,λvs G1 H1 s1 r1=>⟨vA!,λp hp=>k _ _ _ vA_ (Fi vB! r1)⟩⟩
  .cases e
noncomputable def Zj(K:W.Frag)(r:cv!)(g:X!):Prop:=∀{vs:l_} {ds:b!} {d:D} {G H:Hp} {Q:VK},Cv G H->Bb K G ds vs->g ds=some d->jD!->r vs H Q
noncomputable def f1(g:X!)(fs:an!):Ag->Option D:=λρ=>(fb_).bind g
theorem Eh{id:String}{x:Str}{r:cv!}{g:X!}(hc:mS!)(hd:Zj X.K r g)(hg:R_)(hm:cs!)(hv:mS_)(ha:g0!)(hn:cs_:=by decide)
  (bc:G!:=by decide)(he:al_:=by rfl)(ax:aR_:=by rfl):DE X own bh! jG!:=
 Im vB_ λZ G H Q ρ d er e' k=>by
  show"#/";exact vC!
theorem b1a{T:String}{x:Str}{r:cv!}{g:X!}(hc:mT_)(hd:Zj X.K r g)(hg:R_)(hm:cs!)(hv:iT_)(ha:g0!)(hn:cs_:=by decide)
  (bc:G!:=by decide)(he:al_:=by rfl)(ax:aR_:=by rfl):DE X own bh! jG!:=
 Im vC_ λZ G H Q ρ d er e' k=>by
  show"#/";exact vC!
noncomputable def spF(K:W.Frag)(n:Nat)(g:X!):Sp:=λvs H Q _=>bz!=n/\∃G ds d,Cv G H/\Bb K G ds vs/\g ds=some d/\∀v G' H',Ev G H G' H'->Bn K G' d v->Q v H'
theorem c2t{k:Nat}{ps:p!}{g:X!}{x:Str}(F:Ks X.prog X.w X.K X.mg X.base iR k σ fd ps vD!)(hr:b7_)(hg:R_)(hm:X.mg x=some bS!)(hk:W.keepIn X.K bS!=true)
  (J:jG_)(ha:g0!)(hn:vE_:=by rfl)(al:vE!)
  (bc:G!:=by decide)(he:al_:=by rfl)(ax:aR_:=by rfl):
  DE X own bh! jG!:=
 Im (a6t F hr hg hm hk J .nil lK ha.ok bc he ax) λZ G H Q ρ d er e' k=>by
  show"#/";refine⟨G,ρ,ds,er,e1,λvs G1 H1 s1 r1=>?_⟩;show spF X.K ps.length g (vs++[]) H1 Q E0;rw[BL];exact⟨by rw[<-Ar r1];exact al ρ ds e1,G1,ds,d,s1.sub,r1,e',vx!⟩
end
theorem Bp{ρ:Ag}{ds:b!}(h:Ao ρ=some ds):f_=0:=by cases h;rfl
theorem At{f:e!}{fs:an!}{n:Nat}(hf:vF!):∀(ρ:Ag) (ds:b!),Ad f fs ρ=some ds->f_=n+1:=λρ ds e=>by
 show"!<";obtain⟨xs,e2,e⟩:=AB.mp e;cases e;rw[AR,hf ρ xs e2]
theorem Zv{h:Heap}{its:ab_}(p:PlainL h a its):∃n sl,h.get? a=some {cls:=.type "list",dict:=none,data:=.seq its n,slots:=sl}:=by obtain⟨⟨cls,dd,data,sl⟩,n,e,B,Y,h3⟩:=p;simp only at B Y h3;subst B Y h3;exact⟨n,sl,e⟩
section
variable{X:Cx}
noncomputable def c3v(K:W.Frag):R2:=λx y H Q=>∃l b xs zs,x=.ref l/\y=.ref b/\Kw K H l xs/\Kw K H b zs/\k_+zs.length<=sizeLine/\∀p,H p=none->Q b7! (upd H p uv_)
theorem c1a:Ml X eJ_ (c3v X.K):=by
 intro O s Z H x y v u Q I rx ry h;obtain⟨l,b,xs,zs,rfl,rfl,hH,hB,hz,q⟩:=h;cases rx;cases ry;obtain⟨its,r,pl,z⟩:=I.list hH;obtain⟨gj,r2,QI,z2⟩:=I.list hB;obtain⟨n,sl,e⟩:=Zv pl;obtain⟨n2,ja,e2⟩:=Zv QI;have B:=aC!;have Y:=r2.length;refine concat_meets c8! ⟨_,e2,rfl⟩ PySem.noFill_list_add PySem.seq_list_add PySem.F.slot_list_add PySem.F.entry_list_add (PySem.F.args_list_add_2 _ _)
  (list_addW l b its.toArray gj.toArray n n2 none none sl ja nW_) ⟨e,e2,?_⟩
 have ea:aO!++gj.toArray=(its++gj).toArray:=by simp
 rw[ea];exact⟨.ref _,_,I.lnew (t':=s.toks) (r.append r2) vG!,rfl,q _ I.fresh⟩
noncomputable def b3c(K:W.Frag):R2:=λx y H Q=>∃a b ys,x=.ref a/\y=.ref b/\Lp K H a []/\Lp K H b ys/\Q dV! H
theorem b4t:Ml X eJ_ (b3c X.K):=by
 intro O s Z H x y v u Q I rx ry h;obtain⟨a,b,ys,rfl,rfl,ha,J,q⟩:=h;cases rx;cases ry;obtain⟨its,r1,p1,_⟩:=I.tuple ha;obtain⟨gj,r2,p2,_⟩:=I.tuple J;obtain⟨⟨cls,dd,data,sl⟩,ho,hc,n,hd⟩:=id p1;obtain⟨⟨KG,km,data2,ja⟩,ie,jb,n2,jc⟩:=id p2;simp only at hc hd jb jc;subst hc hd jb jc;have e0:its=[]:=r1.nil_iff.mpr rfl;exact concat_meets iV! iV_ noFill_tuple_add seq_tuple_add HS HJ (HG _ _)
  (tuple_addW0 a b its.toArray gj.toArray n n2 dd km sl ja (by simp[e0])) ⟨ho,ie,⟨.ref b,H,I,rfl,q⟩⟩
abbrev big:Nat:=100000
theorem Fg{n:Nat}(h:n<=big):n<=sizeLine:=BN h vG_
noncomputable def Bd:D->D->Option D
 |.int i,.int j=>some (.int (i+j))
 |.str x,.str y=>if eM_+cw!<=big then some (.str (x++y))else none
 |.tup xs,.tup ys=>if k_+Z!<=big then some (.tup et!)else none
 |.lst xs,.lst ys=>if k_+Z!<=big then some (.lst et!)else none
 |_,_=>none
noncomputable def tG(K:W.Frag):R2:=λx y H Q=>tE (λi j=>.int (i+j)) x y H Q\/((∃i j,x=.str i/\y=.str j/\i.length+j.length<=sizeLine/\Q (.str (i++j)) H)\/(c3u K x y H Q\/(b3c K x y H Q\/c3v K x y H Q)))
theorem Bc:Ml X eJ_ (tG X.K):=c6l.or (a3d.or (c0z.or (b4t.or c1a)))
theorem Cz{K:W.Frag}:Po K (tG K) Bd:=by
 show"!/";unfold Bd at e;show"!7"
 .show"!Y";exact .inl ⟨_,_,rfl,rfl,ec!⟩
 .cases Du rx;cases Du ry;show"!7"
  .show"!D";exact .inr (.inl ⟨_,_,rfl,rfl,Fg hl,jH_⟩)
  .cases e
 .show"!S";obtain⟨b,ws,rfl,qb,rb⟩:=Da ry;show"!7"
  .show"!D";have l1:=Ar ra;have l2:=Ar rb;by_cases hv:vs=[]
   .subst hv;refine .inr (.inr (.inr (.inl ⟨a,b,ws,rfl,rfl,jI!,nX_,k _ G H aM! ?_⟩)));have:(_:b!)=[]:=HL.mp l1;rw[this,CT];exact Bn.tup qb rb
   .refine .inr (.inr (.inl ⟨a,b,vs,ws,rfl,rfl,jI!,nX_,hv,by rw[<-l1,<-l2];exact Fg hl,λhw=>?_,λhw p hp=>?_⟩))
    .subst hw;have:(_:b!)=[]:=HL.mp l2;refine k _ G H aM! ?_;rw[this,BL];exact Bn.tup qa ra
    .exact k _ _ _ g0_ (Ll fc! (Gb ra rb))
  .cases e
 .show"#$";obtain⟨b,ws,rfl,qb,rb⟩:=De ry;show"!7"
  .show"!D";exact .inr (.inr (.inr (.inr ⟨a,b,vs,ws,rfl,rfl,sub.seq qa,sub.seq qb,by rw[<-Ar ra,<-Ar rb];exact Fg hl,λp hp=>k _ _ _ g0_ (Fi fc! (Gb ra rb))⟩)))
  .cases e
 .cases e
noncomputable def Hr(c:mg_)(g:jI_):D->D->Option D
 |.int i,.int j=>if c i j=true then some by! else none
 |_,_=>none
theorem tW{K:W.Frag}{C:md_}{c:mg_}{g:jI_}{gv:iw_}(hc:∀i j,c i j=true->C i j)(hg:vH_):Po K (rI C gv) (Hr c g):=by
 show"!/";unfold Hr at e;show"!7"
 .cases By rx;cases By ry;show"!7"
  .rename_i h;cases e;exact⟨_,_,rfl,rfl,hc _ _ h,vI!⟩
  .cases e
 .cases e
noncomputable def Et(g:jI_):D->D->Option D
 |.int i,.int j=>some by!
 |_,_=>none
theorem jA{K:W.Frag}{g:jI_}{gv:iw_}(hg:vH_):Po K (tE gv) (Et g):=by
 show"!/";unfold Et at e;show"!7"
 .show"!Y";exact⟨_,_,rfl,rfl,vI!⟩
 .cases e
noncomputable def Hh:D->D->Option D:=Et λi j=>.int (i - j)
theorem eV{K:W.Frag}:Po K r5! Hh:=jA λ_ _ _=>Bn.int
noncomputable def yZ(i j:Int):Bool:=(decide (-ix_<i)&&decide (i<2 ^ 64))||(decide (-ix_<j)&&decide (j<2 ^ 64))
theorem c6p{K:W.Frag}:Po K mj! (Hr yZ λi j=>.int (i*j)):=tW (λi j h=>by
 unfold yZ at h;simp only[Bool.or_eq_true,BI,BM]at h;exact h) λ_ _ _=>Bn.int
theorem c6q{K:W.Frag}:Po K ml! (Hr nY_ λi j=>.int (i%j)):=tW (λi j h=>by simpa using h) λ_ _ _=>Bn.int
theorem c1g{K:W.Frag}:Po K mj_ (Hr vJ! λi j=>.int (i / j)):=tW (λi j h=>by
 simp only[BI,BM]at h;exact h) λ_ _ _=>Bn.int
theorem c6o{K:W.Frag}:Po K ml_ (Hr vJ_ λi j=>.int mm!):=tW (λi j h=>by
 simp only[BI,BM]at h;exact⟨h.1.1,h.1.2,h.2⟩) λ_ _ _=>Bn.int
theorem d1j{K:W.Frag}:Po K mo! (Et λi j=>.bl mp!):=jA λ_ _ _=>Bn.bl
theorem d1l{K:W.Frag}:Po K mq! (Et λi j=>.bl mq_):=jA λ_ _ _=>Bn.bl
theorem d1m{K:W.Frag}:Po K mr! (Et λi j=>.bl mr_):=jA λ_ _ _=>Bn.bl
noncomputable def pS(x y:Str):Bool:=!decide (y.cps.toList<x.cps.toList)
theorem a9s:Ml X mo_ (λx y H Q=>∃i j,x=.str i/\y=.str j/\Q vK! H):=by intro O s Z H x y v u Q I rx ry h;obtain⟨i,j,rfl,rfl,q⟩:=h;obtain⟨t,rfl⟩:=rx;obtain⟨t',rfl⟩:=ry;exact PySem.P.le_str (Jh I q rfl)
noncomputable def Fd:D->Bool
 |.non=>true
 |_=>false
noncomputable def Ed:D->D->Option D
 |x,.non=>some (.bl (Fd x))
 |_,_=>none
theorem qF{K:W.Frag}{H:Hp}(r:Bn K H d x):decide (x=V.non)=Fd d:=by
 cases d with
 |non=>cases Iz r;rfl
 |bl b=>cases Fk r;rfl
 |int b=>cases By r;rfl
 |str b=>cases Du r;rfl
 |tup b=>obtain⟨a,vs,rfl,_⟩:=Da r;rfl
 |lst b=>obtain⟨a,vs,rfl,_⟩:=De r;rfl
 |fn b=>cases Ly r;rfl
 |dk b=>obtain⟨a,rfl,_⟩:=c5n r;rfl
theorem a3l{K:W.Frag}:Po K se_ Ed:=by
 show"!/";unfold Ed at e;show"!7"
 .show"#E"
 .cases e
noncomputable def Bh:D->D->Option D
 |x,.non=>some (.bl (!Fd x))
 |_,_=>none
theorem Xy{K:W.Frag}:Po K sh! Bh:=by
 show"!/";unfold Bh at e;show"!7"
 .show"#E"
 .cases e
noncomputable def Aq:D->D->Option D
 |.tup xs,.int i=>Gm xs i
 |.lst xs,.int i=>Gm xs i
 |.str x,.int i=>if eM_<=big then(Gm x.cps.toList i).map λc=>.str am! else none
 |_,_=>none
theorem bH{K:W.Frag}{H:Hp}{i:Int}(r:cB!)(h:Gm ds i=some d):∃v,Gm vs i=some v/\Bn K H d v:=by unfold Gm at h ⊢;obtain⟨j,B,Y⟩:=AB.mp h;obtain⟨v,h3,h4⟩:=Qa r Y;exact⟨v,AB.mpr ⟨j,by rw[<-Ar r];exact B,h3⟩,h4⟩
theorem Au{K:W.Frag}:Po K (rIx K) Aq:=by
 show"!/";unfold Aq at e;show"!7"
 .show"!S";cases By ry;obtain⟨v,B,Y⟩:=bH ra e;exact .inr (.inl ⟨a,vs,_,v,rfl,rfl,jI!,B,k v G H aM! Y⟩)
 .show"#$";cases By ry;obtain⟨v,B,Y⟩:=bH ra e;exact .inl ⟨a,vs,_,v,rfl,rfl,sub.seq qa,B,k v G H aM! Y⟩
 .cases Du rx;cases By ry;show"!7"
  .rename_i hl;obtain⟨c,B,rfl⟩:=AL.mp e;exact .inr (.inr ⟨_,_,c,rfl,rfl,Fg hl,B,jH_⟩)
  .cases e
 .cases e
noncomputable def Ha{α:Type}(xs:N_)(lo hi:a5_):List α:=(xs.drop m1_).take m2!
theorem xS{K:W.Frag}{H:Hp}(r:cB!)(lo hi:a5_):Bb K H (Ha ds lo hi) (a0t vs lo hi):=by unfold Ha a0t;rw[Ar r];exact eF _ (eG _ r)
end
section
variable{X:Cx}{own:List Nat}{e a b c:Expr}{es:List Expr}{pos p2:Pos}{f fa fb fc:Ag->Option D}{fs:Ag->Option (List D)}{ft fu:Ag->Option Bool}{ol oh:Ag->Option (Option Int)}
inductive toD(K:W.Frag)(own:k!)(o:vL!)(Z:St)(H:Hp)(Q:tT_):Prop
 |mk (G:Hp) (ρ:Ag) (i:a5_) (r:cf!) (e:o ρ=some i) (k:∀G' H',Ev G H G' H'->Q i H'):toD K own o Z H Q
noncomputable def Cb:Ag->Option n0!:=λ_=>some none
noncomputable def Ca(f:e!):Ag->Option n0!:=λρ=>(aj!).bind λd=>match d with|.int i=>some (some i)|_=>none
theorem Jq:PO X none (toD X.K own Cb):=λO s Z H Q I ⟨G,ρ,i,er,e,k⟩=>by
 cases e;exact c0n O s Z H Q I (k G H fa_)
theorem Jp(h:de_):PO X ih! (toD X.K own (Ca f)):=λO s Z H Q I ⟨G,ρ,i,er,e',k⟩=>by
 obtain⟨d,e1,e2⟩:=AB.mp e';refine c0m h.ok O s Z H Q I ⟨G,ρ,d,er,e1,λv G' H' s' r'=>?_⟩;cases d<;>first
  |cases e2
  |skip
 cases By r';exact⟨_,rfl,nS_⟩
noncomputable def Cy:D->Option Int->Option Int->Option D
 |.tup xs,lo,hi=>if HT.sIx xs.length 0 lo=0/\HT.sIx xs.length xs.length hi=k_ then none else some (.tup (Ha xs lo hi))
 |.lst xs,lo,hi=>some (.lst (Ha xs lo hi))
 |_,_,_=>none
noncomputable def Ji(f:e!)(ol oh:vL!):Ag->Option D:=λρ=>(aj!).bind λd=>(ol ρ).bind λl=>(oh ρ).bind λh=>Cy d l h
theorem Hy{lo hi:Option Expr}(ha:W_)(hl:PO X lo (toD X.K own ol))(hh:PO X hi (toD X.K own oh)):DE X own (.Subscript a m1! pos) (Ji fa ol oh):=
 Im (b4j (SlR.or c5i b9k) ha.ok hl hh) λZ G H Q ρ d er e k=>by
  show"!<";obtain⟨l,e2,e⟩:=AB.mp e;obtain⟨h,e3,e⟩:=AB.mp e;refine⟨G,ρ,x,er,e1,λv G1 H1 s1 r1=>⟨G1,ρ,l,de!,e2,λG2 H2 s2=>⟨G2,ρ,h,er.grow df!,e3,λG3 H3 s3=>?_⟩⟩⟩;have r3:Bn X.K G3 x v:=(gY!).mono s3.g;have s4:Ev G H G3 H3:=s1.trans gY_;have sub:=s4.sub;unfold Cy at e;show"!7"
  .show"!7"
   .cases e
   .rename_i hw;cases e;obtain⟨p,vs,rfl,q,rr⟩:=Da r3;refine .inl ⟨p,vs,rfl,Dj sub q,?_,λp hp=>k _ _ _ vM! (Ll fc! (xS rr l h))⟩;rw[<-Ar rr];exact hw
  .cases e;obtain⟨p,vs,rfl,q,rr⟩:=De r3;exact .inr ⟨p,vs,rfl,n2!,λp hp=>k _ _ _ vM! (Fi fc! (xS rr l h))⟩
  .cases e
noncomputable def tyD:D->Value
 |.non=>.type "NoneType"
 |.bl _=>.type "bool"
 |.int _=>.type "int"
 |.str _=>.type "str"
 |.tup _=>.type "tuple"
 |.lst _=>.type "list"
 |.fn _=>.none
 |.dk _=>.none
noncomputable def d0v(K:W.Frag)(T:String):List V->Hp->VK->Prop:=λxs H Q=>∃x d b,xs=[x,.ty T]/\Bn K H d x/\W.kitOne K (tyD d) eV!=some b/\(∀a,d≠.fn a)/\(∀a,d≠.dk a)/\Q bI_ H
theorem b8c{T:String}:Ph X n2_ (d0v X.K T):=by
 intro O s Z H xs us Q I r h;obtain⟨x,d,b,rfl,rx,e,hf,xq,q⟩:=h;obtain⟨u,w',rfl,r1,r2⟩:=a5h r;cases r2;have fin:∀tk,EP X O Z Q lP! {s with toks:=tk}:=λtk=>⟨.bl b,H,I.tok tk,rfl,q⟩;cases d with
 |non=>cases Iz rx;cases r1;exact JK W.kitx_none I.kIn True.intro e fd_ fin
 |bl y=>cases Fk rx;cases r1;exact JK W.kitx_bool I.kIn True.intro e fd_ fin
 |int y=>cases By rx;obtain⟨t,rfl⟩:=r1;exact JK W.kitx_int I.kIn True.intro e fd_ fin
 |str y=>cases Du rx;obtain⟨t,rfl⟩:=r1;exact JK W.kitx_str I.kIn True.intro e fd_ fin
 |tup ys=>
  show"!S";cases r1;obtain⟨its,_,⟨o,B,Y,_⟩,_⟩:=I.tuple qa;exact JK W.kitx_tuple I.kIn n3! e fd_ fin
 |lst ys=>
  show"#$";cases r1;obtain⟨its,_,pl,_⟩:=I.list qa;obtain⟨o,n,B,Y,_⟩:=pl;exact JK W.kitx_list I.kIn n3! e fd_ fin
 |fn a=>exact absurd rfl (hf a)
 |dk a=>exact absurd rfl (xq a)
noncomputable def La(T:String):D->Option Bool
 |.non=>some (T=="NoneType")
 |.bl _=>some (T=="bool"||T=="int")
 |.int _=>some (T=="int")
 |.str _=>some (T=="str")
 |.tup _=>some (T=="tuple")
 |.lst _=>some (T=="list")
 |.fn _=>none
 |.dk _=>none
structure b1j(K:W.Frag)(T:String):Prop where
 ok:∀d b,La T d=some b->W.kitOne K (tyD d) eV!=some b
theorem uO:W.kitOne [] g3! bB_=some ("int"=="NoneType"):=by decide+kernel
theorem zI:W.kitOne [] bC! bB_=some ("int"=="bool"||"int"=="int"):=by decide+kernel
theorem uS:W.kitOne [] bB_ bB_=some ("int"=="int"):=by decide+kernel
theorem uM:W.kitOne [] a4! bB_=some ("int"=="str"):=by decide+kernel
theorem uK:W.kitOne [] bC_ bB_=some ("int"=="tuple"):=by decide+kernel
theorem uQ:W.kitOne [] a6_ bB_=some ("int"=="list"):=by decide+kernel
theorem c1t{K:W.Frag}:b1j K "int":=⟨λd b h=>match d,b,h with
 |.non,b,h=>by cases h;exact uO
 |.bl _,b,h=>by cases h;exact zI
 |.int _,b,h=>by cases h;exact uS
 |.str _,b,h=>by cases h;exact uM
 |.tup _,b,h=>by cases h;exact uK
 |.lst _,b,h=>by cases h;exact uQ
 |.fn _,b,h=>by cases h
 |.dk _,b,h=>by cases h⟩
theorem pB:W.kitOne [] g3! bC!=some ("bool"=="NoneType"):=by decide+kernel
theorem uU:W.kitOne [] bC! bC!=some ("bool"=="bool"||"bool"=="int"):=by decide+kernel
theorem pG:W.kitOne [] bB_ bC!=some ("bool"=="int"):=by decide+kernel
theorem oZ:W.kitOne [] a4! bC!=some ("bool"=="str"):=by decide+kernel
theorem oX:W.kitOne [] bC_ bC!=some ("bool"=="tuple"):=by decide+kernel
theorem pE:W.kitOne [] a6_ bC!=some ("bool"=="list"):=by decide+kernel
theorem b6k{K:W.Frag}:b1j K "bool":=⟨λd b h=>match d,b,h with
 |.non,b,h=>by cases h;exact pB
 |.bl _,b,h=>by cases h;exact uU
 |.int _,b,h=>by cases h;exact pG
 |.str _,b,h=>by cases h;exact oZ
 |.tup _,b,h=>by cases h;exact oX
 |.lst _,b,h=>by cases h;exact pE
 |.fn _,b,h=>by cases h
 |.dk _,b,h=>by cases h⟩
theorem uN:W.kitOne [] g3! a4!=some ("str"=="NoneType"):=by decide+kernel
theorem zH:W.kitOne [] bC! a4!=some ("str"=="bool"||"str"=="int"):=by decide+kernel
theorem uR:W.kitOne [] bB_ a4!=some ("str"=="int"):=by decide+kernel
theorem uL:W.kitOne [] a4! a4!=some ("str"=="str"):=by decide+kernel
theorem uJ:W.kitOne [] bC_ a4!=some ("str"=="tuple"):=by decide+kernel
theorem uP:W.kitOne [] a6_ a4!=some ("str"=="list"):=by decide+kernel
theorem vF{K:W.Frag}:b1j K "str":=⟨λd b h=>match d,b,h with
 |.non,b,h=>by cases h;exact uN
 |.bl _,b,h=>by cases h;exact zH
 |.int _,b,h=>by cases h;exact uR
 |.str _,b,h=>by cases h;exact uL
 |.tup _,b,h=>by cases h;exact uJ
 |.lst _,b,h=>by cases h;exact uP
 |.fn _,b,h=>by cases h
 |.dk _,b,h=>by cases h⟩
theorem mK:W.kitOne [] g3! bC_=some ("tuple"=="NoneType"):=by decide+kernel
theorem pH:W.kitOne [] bC! bC_=some ("tuple"=="bool"||"tuple"=="int"):=by decide+kernel
theorem mM:W.kitOne [] bB_ bC_=some ("tuple"=="int"):=by decide+kernel
theorem mJ:W.kitOne [] a4! bC_=some ("tuple"=="str"):=by decide+kernel
theorem mI:W.kitOne [] bC_ bC_=some ("tuple"=="tuple"):=by decide+kernel
theorem mL:W.kitOne [] a6_ bC_=some ("tuple"=="list"):=by decide+kernel
theorem Yb{K:W.Frag}:b1j K "tuple":=⟨λd b h=>match d,b,h with
 |.non,b,h=>by cases h;exact mK
 |.bl _,b,h=>by cases h;exact pH
 |.int _,b,h=>by cases h;exact mM
 |.str _,b,h=>by cases h;exact mJ
 |.tup _,b,h=>by cases h;exact mI
 |.lst _,b,h=>by cases h;exact mL
 |.fn _,b,h=>by cases h
 |.dk _,b,h=>by cases h⟩
theorem pA:W.kitOne [] g3! a6_=some ("list"=="NoneType"):=by decide+kernel
theorem uT:W.kitOne [] bC! a6_=some ("list"=="bool"||"list"=="int"):=by decide+kernel
theorem pF:W.kitOne [] bB_ a6_=some ("list"=="int"):=by decide+kernel
theorem oY:W.kitOne [] a4! a6_=some ("list"=="str"):=by decide+kernel
theorem oW:W.kitOne [] bC_ a6_=some ("list"=="tuple"):=by decide+kernel
theorem pC:W.kitOne [] a6_ a6_=some ("list"=="list"):=by decide+kernel
theorem d1y{K:W.Frag}:b1j K "list":=⟨λd b h=>match d,b,h with
 |.non,b,h=>by cases h;exact pA
 |.bl _,b,h=>by cases h;exact uT
 |.int _,b,h=>by cases h;exact pF
 |.str _,b,h=>by cases h;exact oY
 |.tup _,b,h=>by cases h;exact oW
 |.lst _,b,h=>by cases h;exact pC
 |.fn _,b,h=>by cases h
 |.dk _,b,h=>by cases h⟩
noncomputable def Ja(T:String)(f:e!):Ag->Option D:=λρ=>(aj!).bind λd=>(La T d).map D.bl
theorem Ub{T:String}{x:Str}(ht:b1j X.K T)(hg:Gl X "isinstance")(hm:X.mg "isinstance"=none)(QJ:R_)(xr:cs!)(hv:bootBuiltins "isinstance"=some n2_)(QK:iT_)(ha:W_)
  (jw:cs_:=by decide)(jc:G!:=by decide)
  (he:starEach [a,cE!] X.env=dK_::starEach [cE!] X.env:=by rfl)(vg:starEach [cE!] X.env=(false,eval di! X.env)::starEach [] X.env:=by rfl)
  (ax:(backTo pos (starEach [cE!] X.env)).any a_=false:=by rfl):DE X own (.Call (.Name "isinstance" p) [a,cE!] [] pos) (Ja T fa):=
 Im (lJ (r:=d0v X.K T) b8c hg hm hv (Hq ha.ok (Hq (c0u (v:=V.ty T) QJ xr QK rfl jw jc) Mx vg) he) c! c! he ax) λZ G H Q ρ d er e k=>by
  show"!<";obtain⟨b,e2,rfl⟩:=AL.mp e;exact⟨G,ρ,x,er,e1,λv G1 H1 s1 r1=>⟨v,x,b,rfl,r1.mono s1.sub,ht.ok x b e2,vN_,vN_,vy_⟩⟩
theorem Ho{K:W.Frag}{H:Hp}(h:Bb K H [d] vs):∃v,vs=[v]/\Bn K H d v:=by obtain⟨v,r,rfl,B,Y⟩:=Dg h;cases Fp Y;exact⟨v,rfl,B⟩
noncomputable def Dd:List D->Option D
 |[.tup xs]=>some (.int k_)
 |[.lst xs]=>some (.int k_)
 |[.str x]=>if eM_<=big then some (.int eM_)else none
 |_=>none
theorem Jj{K:W.Frag}:Zj K vO_ Dd:=by
 show"!@";unfold Dd at e;show"!7"
 .show"#:";exact⟨_,_,rfl,.inr ⟨ws,Dj sub q,Ar rr⟩,ec!⟩
 .show"!_";cases e;exact⟨_,_,rfl,.inl ⟨ws,n2!,Ar rr⟩,ec!⟩
 .show"!4";cases Du rv;show"!7"
  .show"!D";exact⟨_,_,rfl,⟨Fg hl,rfl⟩,ec!⟩
  .cases e
 .cases e
noncomputable def Lo:List D->Option D
 |[.int i]=>some (.int iB!)
 |_=>none
theorem c8i{K:W.Frag}:Zj K sr! Lo:=by
 show"!@";unfold Lo at e;show"!7"
 .show"!4";cases By rv;cases e;exact⟨_,rfl,ec!⟩
 .cases e
noncomputable def c0w:List D->Option D
 |[.str x]=>if eM_=1 then some st! else none
 |_=>none
theorem c8h{K:W.Frag}:Zj K st_ c0w:=by
 show"!@";unfold c0w at e;show"!7"
 .show"!4";cases Du rv;show"!7"
  .show"!D";exact⟨_,rfl,hl,ec!⟩
  .cases e
 .cases e
noncomputable def d4h:List D->Option D
 |[.lst xs]=>some bc!
 |[.tup xs]=>some bc!
 |_=>none
noncomputable def a7j:List D->Option D
 |[.lst xs]=>some L!
 |[.tup xs]=>some L!
 |_=>none
theorem c3a{K:W.Frag}:Zj K vP! a7j:=by
 show"!@";unfold a7j at e;show"!7"
 .show"!_";cases e;exact⟨a,ws,rfl,.inl n6!,vP_⟩
 .show"#:";exact⟨a,ws,rfl,.inr g3_,vP_⟩
 .cases e
theorem jQ:∀{bs:jK!} {us:h!},Ci (bs.map V.bl) us->us=bs.map Value.bool
 |[],_,.nil=>rfl
 |b::bs,_,.cons r t=>by cases r;rw[jQ t];rfl
noncomputable def d0y(K:W.Frag):List V->Hp->VK->Prop:=λxs H Q=>∃(p:Addr) (bs:jK!),xs=gF_/\Kw K H p (bs.map V.bl)/\Q (.bl n6_) H
theorem b1c:∀(bs:jK!),((List.range bs.length).all λi=>(bs[i]?).getD true)=bs.all id:=λbs=>by
 rw[EH,DU,DU];show"!J"
 .intro h x L;obtain⟨i,hi,rfl⟩:=IE.mp L;have:=h i (FS.mpr hi);simpa[hi]using this
 .intro h i hi;have cz:=FS.mp hi;simpa[cz]using h bs[i] (DH cz)
theorem nS(hc:be!):Ph X vQ! (d0y X.K):=by
 intro O s Z H xs us Q I r h;obtain⟨p,bs,rfl,hq,q⟩:=h;obtain⟨u,rfl,r1⟩:=aU r;cases r1;obtain⟨its,rv,pl,hz⟩:=I.list hq;have e:=jQ rv;subst e;have hl:=pl.isList;have am:p<q!:=by obtain⟨_,e,_⟩:=hl;exact BF e
 refine call_all_walk (wpAny_pyIter_list hl ?_);refine⟨q!,[q!,p],[q!],(jK_).toArray.size,_,_,λi=>(bs[i]?).getD true,rfl,Walks.list (A:=X.A.in1) bJ_ _ p (BV am) (jK_).toArray,
  ⟨eG!,hl.push _⟩,λi v s' Q' E' hP hQ=>?_,λh' tk hk=>?_⟩
 .have LC:jK_[i]?=some v:=by simpa using hP
  rw[BS]at LC;obtain⟨b,J,rfl⟩:=AL.mp LC;simp only[J,Option.getD_some]at hQ;exact CA hQ
 .have e:((List.range (jK_).toArray.size).all λi=>(bs[i]?).getD true)=bs.all id:=by
   rw[AJ,AW];exact b1c bs
  rw[e];exact⟨.bl _,H,I.kept (t':=tk) λb x ex=>hk b x (λhm=>by rw[AT.mp hm]at ex;exact FK _ (BF ex)) (AG _ ex),rfl,q⟩
noncomputable def Zi:List D->Option (List Bool)
 |[]=>some []
 |.bl b::r=>(Zi r).map (b::·)
 |_=>none
noncomputable def nW:List D->Option D
 |[.lst xs]=>(Zi xs).map λbs=>.bl n6_
 |_=>none
theorem qG{K:W.Frag}{H:Hp}:∀{ds:b!} {vs:l_} {bs:jK!},Bb K H ds vs->Zi ds=some bs->vs=bs.map V.bl
 |[],vs,bs,r,e=>by cases Fp r;cases e;rfl
 |d::ds,vs,bs,r,e=>by
  obtain⟨v,t,rfl,r1,r2⟩:=Dg r;cases d<;>first|cases e|skip
  obtain⟨WR,e1,rfl⟩:=AL.mp e;cases Fk r1;rw[qG r2 e1];rfl
theorem a4s{K:W.Frag}:Zj K (d0y K) nW:=by
 show"!@";unfold nW at e;show"!7"
 .show"!_";obtain⟨bs,e1,rfl⟩:=AL.mp e;have:=qG rr e1;subst this;exact⟨a,bs,rfl,n2!,ec_⟩
 .cases e
end
noncomputable def ItD(K:W.Frag)(ab:It)(ds:b!)(G1:Hp):Prop:=∀(i:Nat) (G' H':Hp),Cv G1 G'->Cv G' H'->
 vQ_/\vR_
inductive tiD(K:W.Frag)(own:k!)(fi:an!)(Z:St)(H:Hp)(R:gf_):Prop
 |mk (G:Hp) (ρ:Ag) (ds:b!) (o:cf!) (e:fi ρ=some ds) (k:∀ab G1 H1,Ev G H G1 H1->ItD K ab ds G1->R ab H1):tiD K own fi Z H R
structure DI(X:Cx)(own:k!)(tg iter:Expr)(fi:an!):Prop where
 ok:PI X tg iter (tiD X.K own fi)
section
variable{X:Cx}{own:List Nat}{e a b c tg:Expr}{es:List Expr}{pos p2:Pos}{f fa fb fc:Ag->Option D}{fs fi:Ag->Option (List D)}{ft fu:Ag->Option Bool}
theorem a0m{wi:TI}(h:PI X tg e wi)(hw:∀Z G H R ρ ds,OR X.K own G H Z ρ->fi ρ=some ds->(∀ab G1 H1,Ev G H G1 H1->ItD X.K ab ds G1->R ab H1)->wi Z H R):DI X own tg e fi:=⟨λO s Z H R I ⟨G,ρ,ds,er,e,k⟩=>h O s Z H R I (hw Z G H R ρ ds er e k)⟩
noncomputable def Hk(f:e!):Ag->Option aL_:=λρ=>(aj!).bind λd=>match d with|.lst xs=>some xs|_=>none
noncomputable def d5w(f:e!):Ag->Option aL_:=λρ=>(aj!).bind λd=>match d with|.tup xs=>some xs|_=>none
theorem zT{K:W.Frag}{G1:Hp}{ad:Addr}(q:Kw K G1 ad vs)(r:Bb K G1 ds vs):ItD K (Itl K ad) ds G1:=by intro i G' H' s1 s2;have q':Kw K H' ad vs:=s2.seq (s1.seq q);refine⟨ed!,λhi=>⟨vs,q',by rw[<-Ar r,hi];exact BB _⟩⟩;obtain⟨v,B,Y⟩:=Qa r hd;refine⟨⟨vs,v,q',B⟩,g4!⟩;obtain⟨e1,e2⟩:=hy;subst e1;have:=e2 vs q';rw[B]at this;cases this;exact⟨G',jL!,Y.mono s1⟩
theorem Jr(h:W_):DI X own tg a (Hk fa):=a0m (a6o h.ok) λZ G H R ρ ds er e k=>by
 obtain⟨d,e1,e2⟩:=AB.mp e;cases d<;>first|cases e2|skip
 refine fe!;obtain⟨p,vs,rfl,q,rr⟩:=De r1;exact⟨p,rfl,⟨vs,s1.sub.seq q⟩,k _ G1 H1 s1 (zT q rr)⟩
noncomputable def Hi(n:Nat):List D:=(n7!).map λi=>.int (i:Nat)
noncomputable def Km(f:e!):Ag->Option aL_:=λρ=>(aj!).bind λd=>match d with|.int j=>if -1000<=j/\j<=100000 then some (Hi j.toNat)else none|_=>none
theorem b0o{K:W.Frag}{G1:Hp}{n:Nat}:ItD K (Itr 0 n) (Hi n) G1:=by intro i G' H' s1 s2;unfold Hi;refine vS!;rw[BS]at hd;obtain⟨j,hj,rfl⟩:=AL.mp hd;obtain⟨hl,he⟩:=AZ.mp hj;rw[GZ]at he;subst he;rw[EV]at hl;refine⟨hl,g4!⟩;obtain⟨e1,e2⟩:=hy;subst e1 e2;refine⟨G',jL!,?_⟩;rw[Int.zero_add];exact Bn.int
theorem On{pos:Pos}(hg:ir!)(hm:ir_)(h:W_)(hs:rN_:=by rfl)(b6:jM!:=by rfl):
  DI X own tg rO_ (Km fa):=a0m (a9o hg hm (Hq h.ok Mx b6) hs) λZ G H R ρ ds er e k=>by
 obtain⟨d,e1,e2⟩:=AB.mp e;cases d<;>first|cases e2|skip
 rename_i j;have e3:(if -1000<=j/\j<=100000 then some (Hi j.toNat)else none)=some ds:=e2;split at e3
 .rename_i hj;cases e3;refine fe!;cases By r1;exact⟨j,rfl,t_,t_,k _ G1 H1 s1 b0o⟩
 .cases e3
noncomputable def Io(bnd:af_)(ft:aa!)(fe:e!)(ρ:Ag):List D->Option aL_
 |[]=>some []
 |d::ds=>(jN!).bind λah=>(ft ah).bind λb=>if b then(fe ah).bind λy=>(Io bnd ft fe ρ ds).map (y::·)else Io bnd ft fe ρ ds
noncomputable def GD(K:W.Frag)(g:TG)(bnd:af_):Prop:=∀{x:V} {d:D} {Z:St} {G H:Hp} {ρ ah:Ag} {Q:ih_},OR K [] G H Z ρ->Bn K G d x->bnd d ρ=some ah->(∀dq,OR K [] G H dq ah->Le ρ ah->Q dq H)->g x Z H Q
noncomputable def Cr(i:Nat):D->Ag->Option Ag:=λd ρ=>match ρ[i]? with|some none=>some cf_|_=>none
theorem Fc{K:W.Frag}(i:Nat):GD K eD_ (Cr i):=by
 intro x d Z G H ρ ah Q er r e k;unfold Cr at e;show"!7"
 .rename_i h;cases e;exact k _ (er.set d_ r) ((Le.refl ρ).set h)
 .cases e
noncomputable def nV(i j:Nat):D->Ag->Option Ag:=λd ρ=>match d with
 |.tup [x,y]=>(Cr i x ρ).bind λah=>Cr j y ah
 |_=>none
theorem Le.trans{ρ ah bg:Ag}(a:Le ρ ah)(b:Le ah bg):Le ρ bg:=⟨a.1.trans b.1,λi d h=>b.2 i d (a.2 i d h)⟩
theorem c2c{K:W.Frag}(i j:Nat):GD K vU! (nV i j):=by
 intro x d Z G H ρ ah Q er r e k;unfold nV at e;show"!7"
 .obtain⟨bg,e1,e2⟩:=AB.mp e;show"!W";show"!5";refine⟨p,[v1,v2],rfl,Dj er.sub q,rfl,v1,[v2],rfl,?_⟩;refine Fc i er r1 e1 λdq l9 l1=>⟨v2,[],rfl,?_⟩;exact Fc j l9 r2 e2 λcy cb l2=>⟨rfl,k cy cb (l1.trans l2)⟩
 .cases e
noncomputable def He(nl:Nat)(ix:k!)(fi:an!)(bnd:af_)(ft:aa!)(fe:e!):Ag->Option D:=λρ=>(fi ρ).bind λds=>if f_<=big then(Io bnd ft fe nJ_ ds).map D.lst else none
theorem c8g{K:W.Frag}{ab:It}{ds:b!}{G1 H1:Hp}{g:TG}{bnd:af_}{ft:aa!}{fe:e!}{jz:Ag}{q8:St}{Fin:cW!}
  (J:f_<=big)(fh:vU_)(hg:GD K g bnd)(er:OR K [] G1 H1 q8 jz)(e:Io bnd ft fe jz ds=some je)(k:∀ys G' H',Ev G1 H1 G' H'->Bb K G' je ys->Fin ys H'):
  a8i ab g (ttD K [] ft) (tD K [] fe) Fin q8 H1:=by
 refine⟨λi m ys hx H'=>i<=f_/\m=f_ - i/\∃G' ws r,Ev G1 H1 G' H'/\OR K [] G' H' hx jz/\Bb K G' ws ys/\mW!<=i/\Io bnd ft fe jz (ds.drop i)=some r/\ws++r=je,
  ⟨f_,CG _,rfl,G1,[],je,Ev.refl er.sub,er,Bb.nil,CG _,e,rfl⟩,?_⟩
 rintro i m ys hx H' ⟨hi,rfl,G',ws,r,x,cf,aj,hw,cb,et⟩;refine vV!;obtain⟨md,me⟩:=fh i G' H' x.g cf.sub;by_cases am:i<f_
 .right;have hd:ds[i]?=some ds[i]:=by simp[am]
  have xt:ds.drop i=ds[i]::ds.drop ba!:=ES am;rw[xt]at cb;unfold Io at cb;obtain⟨ah,e1,cb⟩:=AB.mp cb;obtain⟨b,e2,cb⟩:=AB.mp cb;obtain⟨go,yl⟩:=md _ hd;refine⟨go,jN_⟩;obtain⟨G2,x2,r2⟩:=yl v H2 hy;refine hg (cf.grow x2) r2 e1 λdq l9 q9=>⟨G2,ah,b,l9,e2,λG3 H3 x3=>?_⟩;have j0:=l9.grow x3;have ky:Ev G1 H1 G3 H3:=x.trans (x2.trans x3);cases b with
  |true=>
   obtain⟨y,e3,cb⟩:=AB.mp cb;obtain⟨zs,e4,rfl⟩:=AL.mp cb;refine Ww ⟨G3,ah,y,j0,e3,λu G4 H4 x4 r4=>⟨_,?_,am,rfl,G4,ws++[y],zs,ky.trans x4,(j0.grow x4).le q9,?_,?_,e4,?_⟩⟩
   .omega
   .exact Gb vV_ (Bb.cons r4 Bb.nil)
   .rw[AY,DN];omega
   .rw[CN];exact et
  |false=>
   refine Wx ⟨_,?_,am,rfl,G3,ws,r,ky,j0.le q9,(n8_).mono x3.g,t_,cb,et⟩;omega
 .left;have ik:i=f_:=by omega
  refine⟨me ik,k ys G' H' x ?_⟩;rw[ik,HR]at cb;cases cb;rw[BL]at et;subst et;exact aj
theorem No{scope:Scope}{NL:p!}{ix:k!}{g:TG}{bnd:af_}{fe:e!}
  (ce:da!)(b9:da_)(jy:∀y∈cb_,y.2=.local->scope.names.lookup y.1=some .local)
  (g9:gR!)(cap:c9_)(mf:jA_)(calm:be!)(bd:DI X own tg iter fi)
  (hg:gR_)(mh:n9!)(hi:∀cl C ak a8 fp,iQ cd! cn vW_)(he:∀cl C ak a8 fp,DE cd! [] db fe)
  (hs:c2!:=by intro _;rfl):
  DE X own gO! (He NL.length ix fi bnd ft fe):=
 Im vX_ λZ G H Q ρ d er e k=>by
  show"!I"
  .rename_i J;obtain⟨je,e2,rfl⟩:=AL.mp e;refine⟨G,ρ,ds,er,e1,vY!⟩;refine c8g J fh mh ((er.grow x1).cap NL.length ix mf) e2 λys G' H' x r p hp=>?_;exact k _ _ _ (x1.trans (x.trans g5_)) (Fi n9_ r)
  .cases e
theorem yL:iQ X [] (ttD X.K [] λ_=>some true):=λO s Z H Q I ⟨G,ρ,b,er,e,k⟩=>by
 cases e;exact yJ O s Z H Q I (k G H fa_)
theorem yK(h:DT X [] c ft):iQ X [c] vW_:=yI h.ok
end
inductive Fl where
 |nx (ρ:Ag)|rt (d:D)
structure SR(K:W.Frag)(own:k!)(G0 F0 G H:Hp)(Z:St)(ρ:Ag):Prop where
 or:OR K own G H Z ρ
 ext:Ev G0 F0 G H
 fr:∀i∈own,∀p,Z[i]?=some ce_->F0 p=none
inductive tsD(K:W.Frag)(G0 F0:Hp)(own h2:k!)(f:aM_)(E:a5c)(Z:St)(H:Hp):Prop
 |mk (G:Hp) (ρ:Ag) (r:Fl) (o:fe_) (e:f ρ=some r) (k:match(generalizing:=false) r with
  |.nx ρ'=>∀G' hx H',SR K h2 G0 F0 G' H' hx ρ'->E.nx hx H'
  |.rt d=>∀v G' H',Ev G0 F0 G' H'->Bn K G' d v->E.rt v H'):tsD K G0 F0 own h2 f E Z H
structure DS(X:Cx)(own h2:k!)(st:Stmt)(f:aM_):Prop where
 ok:∀G0 F0,PS X st vY_
structure DSs(X:Cx)(own h2:k!)(st:b0_)(f:aM_):Prop where
 ok:∀G0 F0,PSs X st vY_
section
variable{X:Cx}{own bh jf:List Nat}{st:Stmt}{rest body:List Stmt}{e a b c tg:Expr}{es:List Expr}{pos p2:Pos}{f fa fb fc:Ag->Option D}{fs fi:Ag->Option (List D)}{ft fu:Ag->Option Bool}{q1 q2 q3:Ag->Option Fl}
theorem c4o{t:TS}(h:ig!)(hw:∀G0 F0 E Z G H ρ r,SR X.K own G0 F0 G H Z ρ->q1 ρ=some r->(match r with
  |.nx ρ'=>∀G' hx H',SR X.K bh G0 F0 G' H' hx ρ'->E.nx hx H'
  |.rt d=>∀v G' H',Ev G0 F0 G' H'->Bn X.K G' d v->E.rt v H')->t E Z H):DS X own bh st q1:=⟨λG0 F0 O s Z H E I ⟨G,ρ,r,er,e,k⟩=>h O s Z H E I (hw G0 F0 E Z G H ρ r er e k)⟩
theorem SR.grow{K:W.Frag}{G0 F0 G H G' H':Hp}{Z:St}{ρ:Ag}(s:fe_)(x:jz_):SR K own G0 F0 G' H' Z ρ:=⟨s.or.grow x,s.ext.trans x,s.fr⟩
theorem SR.set{K:W.Frag}{G0 F0 G H:Hp}{Z:St}{ρ:Ag}{i:Nat}(s:fe_)(hi:bl_)(r:cD!):SR K own G0 F0 G H ex_ cf_:=
 ⟨s.or.set hi r,s.ext,λj hj p e=>by
  have ne:i≠j:=λz=>hi (z▸hj);rw[BP ne]at e;exact s.fr j hj p e⟩
noncomputable def Fo:Ag->Option Fl:=λρ=>some aG!
noncomputable def sSeq(q1 q2:aM_):Ag->Option Fl:=λρ=>(q1 ρ).bind λr=>match r with|.nx ρ'=>q2 ρ'|.rt d=>some bm_
theorem Hx:DSs X own own [] Fo:=⟨λG0 F0 O s Z H E I ⟨G,ρ,r,er,e,k⟩=>by
 cases e;exact a6k O s Z H E I (k G Z H er)⟩
theorem Br(B:vZ!)(Y:DSs X bh jf rest q2):DSs X own jf lV_ (sSeq q1 q2):=⟨λG0 F0 O s Z H E I ⟨G,ρ,r,er,e,k⟩=>by
 refine yH oa! (Y.ok G0 F0) O s Z H E I ?_;obtain⟨r1,e1,e2⟩:=AB.mp e;refine⟨G,ρ,r1,er,e1,?_⟩;cases r1 with
 |nx ρ'=>exact λG' hx H' cf=>⟨G',ρ',r,cf,e2,k⟩
 |rt d=>
  cases e2;exact k⟩
theorem Bw(B:vZ!):DSs X own bh [st] q1:=⟨λG0 F0=>a6j oa!⟩
theorem SR.free{K:W.Frag}{G0 F0 G H:Hp}{Z:St}{ρ:Ag}(s:fe_):SR K [] G0 F0 fa! H Z ρ:=by
 have o:=s.or.full;refine⟨o,⟨jz!,s.ext.h,o.sub,bl!⟩,am_⟩
 .have z:=s.ext.g b u e;unfold Uv;split
  .exact s.or.sub b u z
  .exact z
 .unfold Uv at h;split at h
  .rename_i J;obtain⟨i,hi,q⟩:=Ya J;exact .inr (s.fr i hi b q)
  .exact s.ext.new b h
theorem a0l(h:DSs X [] jf rest q1):DSs X own jf rest q1:=⟨λG0 F0 O s Z H E I ⟨G,ρ,r,er,e,k⟩=>h.ok G0 F0 O s Z H E I ⟨_,ρ,r,er.free,e,k⟩⟩
noncomputable def Cw(f:e!):Ag->Option Fl:=λρ=>(aj!).map Fl.rt
theorem Df(h:de_):DS X own bh lW! (Cw f):=c4o (b3y h.ok) λG0 F0 E Z G H ρ r er e' k=>by
 obtain⟨d,e1,rfl⟩:=AL.mp e';exact⟨G,ρ,d,er.or,e1,λv G' H' x r=>k v G' H' (er.ext.trans x) r⟩
noncomputable def Fe(i:Nat)(f:e!):Ag->Option Fl:=λρ=>(aj!).map λd=>.nx cf_
theorem Lh{i:Nat}(hN:bt_)(hi:ak_)(L:bu!)(h:de_)(bo:bl_:=by decide)(hs:vZ_:=by rfl)
  (hf:X.fn x=true\/X.env.scope.names.lookup x=some .local:=by first|exact .inl rfl|exact .inr rfl|assumption):DS X own own v0! (Fe i f):=
 c4o v0_ λG0 F0 E Z G H ρ r er e' k=>by
  obtain⟨d,e1,rfl⟩:=AL.mp e';exact⟨G,ρ,d,er.or,e1,λv G' H' x r=>k G' _ H' ((g7!).set bo r)⟩
noncomputable def Lw(ft:aa!)(q1 q2:aM_):Ag->Option Fl:=λρ=>(gZ!).bind λb=>if b then q1 ρ else q2 ρ
theorem Om{b1 b2:b0_}(hc:DT X own c ft)(B:DSs X own bh b1 q1)(Y:DSs X own bh b2 q2):DS X own bh v1_ (Lw ft q1 q2):=⟨λG0 F0 O s Z H E I ⟨G,ρ,r,er,e',k⟩=>by
 refine c3y hc.ok oa! (Y.ok G0 F0) O s Z H E I ?_;obtain⟨x,e1,e2⟩:=AB.mp e';refine⟨G,ρ,x,er.or,e1,λG' H' x'=>?_⟩;cases x with
 |true=>exact Ww v2!
 |false=>exact Wx v2!⟩
noncomputable def Vn(i:Nat)(fs:an!):Ag->Option Fl:=λρ=>(fb_).bind λds=>if f_<=1000 then some (.nx ob_)else none
theorem SR.ownNew{K:W.Frag}{G0 F0 G H:Hp}{Z:St}{ρ:Ag}{i:Nat}(s:fe_)(hi:bl_)(hl:i<fW!)(r:jP_)(hp:cC!):
  SR K (i::own) G0 F0 G jx! (Z.set i ce_) ob_:=by
 have xu:i<gU_:=by rw[s.or.len];exact hl
 have xv:Cv H jx!:=Pz hp;show"#2";refine⟨⟨v2_,by rw[EE,EE,s.or.len],v3!,jR!,λj hj k hk b7 a b e1 e2=>?_⟩,⟨s.ext.g,s.ext.h.trans xv,v2_,s.ext.new⟩,λj hj a e=>?_⟩
 .have cp:i≠j:=λz=>n (by rw[z];exact AM);rw[BP cp]at q ⊢;exact s.or.at_ j d q λz=>n (AE _ z)
 .rcases AD.mp hj with z|z
  .subst z;exact⟨p,ds,vs,by rw[CO xu],by rw[CO hl],Dq,s.or.sub.free hp,r⟩
  .have cp:i≠j:=λy=>hi (y▸z);obtain⟨a,rc,f9,B,Y,h3,h4,h5⟩:=s.or.own_ j z;exact⟨a,rc,f9,by rw[BP cp];exact B,by rw[BP cp];exact Y,by rw[Bt (ne h3)];exact h3,h4,h5⟩
 .have look:∀{j:Nat} {a:Addr},j∈i::own->(Z.set i ce_)[j]?=some (some e8_)->(j=i/\a=p)\/(j≠i/\j∈own/\Z[j]?=some (some e8_)/\a≠p):=λ{j a} hj e=>by
   by_cases cp:i=j
   .subst cp;rw[CO hl]at e;cases e;exact .inl bK_
   .rw[BP cp]at e;have hm:j∈own:=(AD.mp hj).elim v5_ id;obtain⟨a',rc,f9,B,Y,h3,h4,h5⟩:=s.or.own_ j hm;rw[e]at Y;cases Y;exact .inr ⟨AI cp,hm,e,ne h3⟩
  rcases look hj e1 with⟨z1,z2⟩|⟨z1,z2,z3,z4⟩
  .rcases look hk e2 with⟨y1,y2⟩|⟨y1,y2,y3,y4⟩
   .exact absurd (z1.trans y1.symm) b7
   .rw[z2];exact AI y4
  .rcases look hk e2 with⟨y1,y2⟩|⟨y1,y2,y3,y4⟩
   .rw[y2];exact z4
   .exact s.or.dis j z2 k y2 b7 a b z3 y3
 .by_cases cp:i=j
  .subst cp;rw[CO hl]at e;cases e;exact s.ext.h.free hp
  .rw[BP cp]at e;exact s.fr j ((AD.mp hj).elim v5_ id) a e
theorem aK{i:Nat}{p3 p4:Pos}(hN:bt_)(hi:ak_)(L:bu!)(h:jF!)(bo:bl_:=by decide)
  (hf:X.fn x=true\/X.env.scope.names.lookup x=some .local:=by first|exact .inl rfl|exact .inr rfl|assumption)(br:swapsWith (.List es p2) (some (.Name x p3)) p4.line X.env=pure false:=by rfl):DS X own (i::own) (.Assign [.Name x p3] (.List es p2) p4) (Vn i fs):=⟨λG0 F0 O s Z H E I ⟨G,ρ,r,er,e',k⟩=>by
  refine a2z hN hi L jF_ br hf O s Z H E I ?_;have hl:i<fW!:=by rw[I.len];exact(AZ.mp hi).1
  obtain⟨ds,e1,e2⟩:=AB.mp e';split at e2
  .rename_i hsz;cases e2;exact⟨G,ρ,ds,er.or,e1,λvs G' H' x r=>⟨by rw[<-Ar r];exact Mf hsz,λp hp=>k G' _ _ ((g7!).ownNew bo hl r hp)⟩⟩
  .cases e2⟩
theorem SR.upd{K:W.Frag}{G0 F0 G H:Hp}{Z:St}{ρ:Ag}{i:Nat}(s:fe_)(hi:d9!)(hp:vj_)(r:jP_):
  SR K own G0 F0 G jx! Z ob_:=by
 obtain⟨p',rc,f9,B,Y,h3,h4,h5⟩:=s.or.own_ i hi;rw[hp]at Y;cases Y;have hG:∀{b u},G b=some u->b≠p:=λe=>Ej e h4;have hF:∀{b u},F0 b=some u->b≠p:=λe=>Ej e (s.fr i hi p hp);have xu:i<gU_:=(jT!).1;refine⟨⟨v6!,by rw[EE,s.or.len],v3!,jR!,s.or.dis⟩,⟨s.ext.g,λb u e=>by rw[Bt (hF e)];exact s.ext.h b u e,v6!,s.ext.new⟩,s.fr⟩
 .have cp:i≠j:=λz=>n (z▸hi);rw[BP cp]at q;exact s.or.at_ j d q n
 .by_cases cp:i=j
  .subst cp;exact⟨p,ds,vs,by rw[CO xu],hp,Dq,h4,r⟩
  .obtain⟨a,QL,QM,g1,g2,g3,g4,g5⟩:=s.or.own_ j hj;have ne:a≠p:=AI (s.or.dis i hi j hj cp p a hp g2);exact⟨a,QL,QM,by rw[BP cp];exact g1,g2,by rw[Bt ne];exact g3,g4,g5⟩
noncomputable def iF(i:Nat)(f:e!):Ag->Option Fl:=λρ=>(aj!).bind λd=>match ρ[i]? with|some (some (.lst ds))=>if f_<big then some v6_ else none|_=>none
theorem fK{i:Nat}{x:Str}{ag ac:Pos}(bo:d9!:=by decide)(h:de_)(hN:ak_:=by rfl)(hv:cX_:=by first|exact Or.inl rfl|exact Or.inr b_|exact Or.inr bm!)
  (hd:G!:=by decide)(bv:cY!:=by decide)
  (bx:jT_:=by rfl)(gk:((jf!).all cx_&&(cy!).all cy_
   &&decide v7!)=true:=by rfl) (ez:c7_:=by rfl)
  (eh:attributeBase bn! "append" X.env jU!=eval bn! X.env:=by rfl) (gn:g8!:=by rfl) (j1:swapsWith v8! none pos.line X.env=pure false:=by rfl):
  DS X own own (.Expr v8! pos) (iF i f):=⟨λG0 F0 O s Z H E I ⟨G,ρ,r,er,e',k⟩=>by
  refine iX (qL FZ PySem.F.slot_list_append PySem.F.type_list_append qS jB_ v9! eh gk ez bx gn) j1 O s Z H E I ?_;obtain⟨d,e1,e2⟩:=AB.mp e';obtain⟨p,ds,vs,B,Y,h3,h4,h5⟩:=er.or.own_ i bo;rw[B]at e2;simp only at e2;split at e2
  .rename_i hl;cases e2;refine⟨fg_,Y,od_,G,ρ,d,er.or,e1,λv G' H' x r=>⟨p,vs,v,rfl,rfl,x.h _ _ h3,?_,?_⟩⟩
   .rw[<-Ar h5];exact BE hl (Fg x_)
   .exact k G' Z _ ((g7!).upd bo Y (Gb oe! (Bb.cons r Bb.nil)))
  .cases e2⟩
noncomputable def a2l(i:Nat)(fx fv:e!):Ag->Option Fl:=λρ=>(fv ρ).bind λd=>(fx ρ).bind λx=>match x,ρ[i]? with|.int j,some (some (.lst ds))=>(oe_).map λk=>.nx v9_|_,_=>none
theorem b7e{i:Nat}{x:Str}{fx fv:e!}(bo:d9!:=by decide)(L:wb!)(hv:DE X own e fv)(hN:ak_:=by rfl)(xw:cX_:=by first|exact Or.inl rfl|exact Or.inr b_|exact Or.inr bm!)
  (hd:G!:=by decide)(bv:cY!:=by decide)
  (ha:∀v,assign wa! X.env v=(do
   let ov <-holding [v] jU!
   let iv <-holding [v,ov] (eval ix X.env)
   standAt p2
   holding eE_ lY!
   release eE_ []):=by intro _;rfl)
  (hs:swapsWithSole jV! e pos.line X.env=pure false:=by rfl) (hw:swappedStores jV! e X.env=pure none:=by rfl)
  (B:(assignEach jV! X.env).map B_=[assign wa! X.env]:=by rfl):
  DS X own own (.Assign jV! e pos) (a2l i fx fv):=⟨λG0 F0 O s Z H E I ⟨G,ρ,r,er,e',k⟩=>by
  refine b4a hv.ok (b4g wb_ L.ok xD ha) hs hw B O s Z H E I ?_;obtain⟨d,e1,e2⟩:=AB.mp e';obtain⟨z,e3,e4⟩:=AB.mp e2;obtain⟨p,ds,vs,B,Y,h3,h4,h5⟩:=er.or.own_ i bo;rw[B]at e4;cases z<;>first|cases e4|skip
  rename_i j;obtain⟨n,e5,rfl⟩:=AL.mp (show(oe_).map _=some r from e4);refine⟨G,ρ,d,er.or,e1,λv G' H' x r=>⟨fg_,Y,G',ρ,eH!,er.or.grow x,e3,wc!⟩⟩;cases By r2;refine⟨p,vs,j,n,rfl,rfl,wc_,by rw[<-Ar h5];exact e5,?_⟩;exact k G2 Z _ (((g7!).grow x2).upd bo Y (kX (r.mono x2.g) n ((oe!).mono x2.g)))⟩
noncomputable def Xf(i:Nat)(fx:e!):Ag->Option D:=λρ=>(fx ρ).bind λx=>match x,ρ[i]? with|.int j,some (some (.lst ds))=>Gm ds j|_,_=>none
theorem fM{i:Nat}{x:Str}{fx:e!}(bo:d9!:=by decide)(L:wb!)(hs:jK ix)(hN:ak_:=by rfl)(xw:cX_:=by first|exact Or.inl rfl|exact Or.inr b_|exact Or.inr bm!)
  (hd:G!:=by decide)(bv:cY!:=by decide):DE X own (.Subscript bn! ix pos) (Xf i fx):=
 Im (b4o a7m wb_ L.ok hs) λZ G H Q ρ d er e k=>by
  obtain⟨z,e3,e4⟩:=AB.mp e;obtain⟨p,ds,vs,B,Y,h3,h4,h5⟩:=er.own_ i bo;rw[B]at e4;cases z<;>first|cases e4|skip
  rename_i j;have e5:Gm ds j=some d:=e4;obtain⟨v,e6,r6⟩:=bH h5 e5;refine⟨fg_,Y,G,ρ,eH!,er,e3,wc!⟩;cases By r2;exact⟨p,vs,j,v,rfl,rfl,Kw.of (x2.h _ _ h3),e6,k v G2 H2 x2 (r6.mono x2.g)⟩
noncomputable def mE(bnd:af_)(q:aM_):List D->Ag->Option Fl
 |[],ρ=>some aG!
 |d::ds,ρ=>(jN!).bind λah=>(q ah).bind λr=>match r with|.nx bg=>mE bnd q ds bg|.rt d=>some bm_
noncomputable def oK(fi:an!)(bnd:af_)(q:aM_):Ag->Option Fl:=λρ=>(fi ρ).bind λds=>mE bnd q ds ρ
noncomputable def nT(F0 G1:Hp):Hp:=λb=>match F0 b with|some o=>some o|none=>G1 b
theorem SR.base{K:W.Frag}{G0 F0 G1 H1:Hp}{Z:St}{ρ:Ag}(s:SR K own G0 F0 G1 H1 Z ρ):SR K own G1 g9! G1 H1 Z ρ:=by
 refine⟨s.or,⟨Cv.refl _,jz!,s.or.sub,dk_⟩,we!⟩
 .unfold nT at e;show"!7"
  .rename_i o ho;cases e;exact s.ext.h b _ ho
  .exact s.or.sub b u e
 .obtain⟨p',ds,vs,B,Y,h3,h4,h5⟩:=s.or.own_ i hi;rw[e]at Y;cases Y;unfold nT;rw[s.fr i hi p e];exact h4
theorem nH{G0 F0 G1 H1 G' H':Hp}(x:we_)(y:Ev G1 g9! G' H'):Ev G0 F0 G' H':=by
 refine⟨x.g.trans y.g,λb u e=>y.h b u ?_,y.sub,bl!⟩
 .unfold nT;rw[e]
 .rcases y.new b h with z|z
  .exact x.new b z
  .right;unfold nT at z;split at z
   .cases z
   .assumption
theorem SR.unbase{K:W.Frag}{G0 F0 G1 H1 G' H':Hp}{Z:St}{ρ:Ag}(x:we_)(s:SR K own G1 g9! G' H' Z ρ):SR K own G0 F0 G' H' Z ρ:=
 ⟨s.or,nH x s.ext,λi hi p e=>by
  have z:=s.fr i hi p e;unfold nT at z;split at z
  .cases z
  .assumption⟩
noncomputable def Dr(i:Nat):D->Ag->Option Ag:=λd ρ=>some cf_
theorem a4k{i:Nat}(hp:ge_)(hc:be!)(bd:DI X own di! iter fi)(hN:bt_)(hi:ak_)(L:bu!)(J:DSs X own own body q1)(bo:bl_:=by decide)
  (hf:X.fn x=true\/X.env.scope.names.lookup x=some .local:=by first|exact .inl rfl|exact .inr rfl|assumption)(hs:c2!:=by intro _;rfl):
  DS X own own (.For di! iter body [] pos) (oK fi (Dr i) q1):=⟨λG0 F0 O s Z H E I ⟨G,ρ,r,er,e',k⟩=>by
 obtain⟨ds,e1,e2⟩:=AB.mp e';have de:PSs X body (λE Z H=>∃A hb,tsD X.K A hb own own q1 E Z H):=λO s Z H E I ⟨A,hb,h⟩=>J.ok A hb O s Z H E I h;refine b3z hp hc bd.ok (Ce hN hi L hf) de hs O s Z H E I ⟨G,ρ,ds,er.or,e1,vY!⟩;have LD:Ev G0 F0 G1 H1:=er.ext.trans x1;refine⟨λn m hx H'=>n<=f_/\m=f_ - n/\∃G' ρ',SR X.K own G1 g9! G' H' hx ρ'/\mE (Dr i) q1 nF! ρ'=some r,
  ⟨f_,CG _,rfl,G1,ρ,(er.grow x1).base,e2⟩,?_⟩
 rintro n m hx H' ⟨hn,rfl,G',ρ',cf,e3⟩;obtain⟨md,me⟩:=fh n G' H' cf.ext.g cf.or.sub;by_cases am:n<f_
 .right;have hd:ds[n]?=some ds[n]:=by simp[am]
  have xt:ds.drop n=ds[n]::ds.drop cF_:=ES am;rw[xt]at e3;unfold mE at e3;obtain⟨ah,e4,e3⟩:=AB.mp e3;obtain⟨r1,e5,e3⟩:=AB.mp e3;cases e4;obtain⟨go,yl⟩:=md _ hd;refine⟨go,λcy H2=>∃G2 bg,SR X.K own G1 g9! G2 H2 cy bg/\mE (Dr i) q1 (ds.drop cF_) bg=some r,λcy H2 ⟨G2,bg,B,Y⟩=>⟨f_ - cF_,t_,am,rfl,G2,bg,B,Y⟩,jN_⟩;obtain⟨G2,x2,r2⟩:=yl v H2 hy;refine⟨G1,nT F0 G1,G2,_,r1,(cf.grow x2).set bo r2,e5,?_⟩;cases r1 with
  |nx bg=>exact λG3 gh H3 j0=>⟨G3,bg,j0,e3⟩
  |rt d=>
   cases e3;exact λw G3 H3 x3 r3=>k w G3 H3 (nH LD x3) r3
 .left;have ik:n=f_:=by omega
  refine oh!;rw[ik,HR]at e3;cases e3;exact k G' hx H' (SR.unbase LD cf)⟩
theorem wW{K:W.Frag}{G H:Hp}{N:p!}{ds:b!}(s:M_)(r:jP_):OR K [] G H (L2.Ys N vs) g9_:=by
 have hl:=Ar r;unfold L2.Ys;refine⟨s,by simp[hl],nI_,am_,am_⟩;by_cases hi:i<f_
 .rw[CV gA!,BS]at q;obtain⟨d',B,Y⟩:=AL.mp q;cases Y;obtain⟨v,h3,h4⟩:=Qa r B;exact⟨v,by rw[CV (by simpa[<-hl]using hi),BS,h3];rfl,h4⟩
 .rw[eU!,GB]at q;split at q<;>cases q
end
theorem c7y{K:W.Frag}{mg:A!}{st:Stmt}{N ps:p!}{k:Nat}{h2:k!}{q:aM_}{g:X!}
  (F:wg_)(S:dZ!)
  (J:∀(af:Value) (A:Around) (outer:aq_) (s:Shared) (H:Hp) (E:XK),Ax k oh_->DSs (oi!).nox [] h2 bP_ q)
  (hg:∀ds d,f_=S_->g ds=some d->q g9_=some bm_\/∃ρ,q g9_=some aG!/\d=.non):
  Ks P w K mg base iR S! σ fd ps jW!:=by
 refine wh!;obtain⟨hl,G,ds,d,sub,r,e,kk⟩:=h;refine⟨_,(wh_).ok G H,?_⟩;have er:=wW (N:=N) sub r;rcases hg ds d (by rw[Ar r];exact hl) e with z|⟨ρ,z,rfl⟩
 .exact⟨G,_,_,wi_,z,λv G' H' x r=>kk v G' H' x r⟩
 .exact⟨G,_,_,wi_,z,λG' hx H' cf=>kk _ G' H' cf.ext Bn.non⟩
mutual
noncomputable def Jb:D->D->Bool
 |.non,.non=>true
 |.bl a,.bl b=>a==b
 |.bl a,.int b=>ug!==b
 |.int a,.bl b=>a==ug_
 |.int a,.int b=>a==b
 |.str a,.str b=>a==b
 |.tup xs,.tup ys=>Qr xs ys
 |.lst xs,.lst ys=>Qr xs ys
 |_,_=>false
noncomputable def Qr:List D->List D->Bool
 |[],[]=>true
 |x::xs,y::ys=>Jb x y&&Qr xs ys
 |_,_=>false
end
mutual
noncomputable def Ct:D->Bool
 |.fn _=>false
 |.dk _=>false
 |.tup xs=>Dw xs
 |.lst xs=>Dw xs
 |_=>true
noncomputable def Dw:List D->Bool
 |[]=>true
 |d::ds=>Ct d&&Dw ds
end
section
variable{X:Cx}{O:List (Addr×Obj)}{Z:St}{H:Hp}{s:Shared}
theorem jR(I:d!)(h:jX!)(h':Kw X.K H a ws):False:=by obtain⟨_,_,⟨o,e,c,_⟩,_⟩:=I.tuple h;obtain⟨_,_,⟨o',n,e',c',_⟩,_⟩:=I.list h';rw[e]at e';cases e';rw[c]at c';exact absurd c' d_
mutual
theorem sY(I:d!):∀(d d':D) (v:V),Ct d=true->Ct d'=true->Bn X.K H d v->Bn X.K H d' v->d=d'
 |.non,d',v,n,n',r,r'=>by
  cases Iz r;cases d'<;>first
   |rfl
   |(unfold Bn at r';cases r';done)
   |(obtain⟨a,vs,e,_⟩:=Da r';cases e)
   |(obtain⟨a,vs,e,_⟩:=De r';cases e)
   |(unfold Ct at n';cases n')
 |.bl b,d',v,n,n',r,r'=>by
  cases Fk r;cases d'<;>first
   |(cases Fk r';rfl;done)
   |(unfold Bn at r';cases r';done)
   |(obtain⟨a,vs,e,_⟩:=Da r';cases e)
   |(obtain⟨a,vs,e,_⟩:=De r';cases e)
   |(unfold Ct at n';cases n')
 |.int b,d',v,n,n',r,r'=>by
  cases By r;cases d'<;>first
   |(cases By r';rfl;done)
   |(unfold Bn at r';cases r';done)
   |(obtain⟨a,vs,e,_⟩:=Da r';cases e)
   |(obtain⟨a,vs,e,_⟩:=De r';cases e)
   |(unfold Ct at n';cases n')
 |.str b,d',v,n,n',r,r'=>by
  cases Du r;cases d'<;>first
   |(cases Du r';rfl;done)
   |(unfold Bn at r';cases r';done)
   |(obtain⟨a,vs,e,_⟩:=Da r';cases e)
   |(obtain⟨a,vs,e,_⟩:=De r';cases e)
   |(unfold Ct at n';cases n')
 |.tup xs,d',v,n,n',r,r'=>by
  obtain⟨a,vs,rfl,q,rr⟩:=Da r;cases d' with
  |tup ys=>
   obtain⟨a',f9,e,q',bu⟩:=Da r';cases e;have:=I.tuple_inj q q';subst this;unfold Ct at n n';rw[wk_]
  |lst ys=>
   obtain⟨a',f9,e,q',bu⟩:=De r';cases e;exact(jR I q q').elim
  |fn b=>unfold Ct at n';cases n'
  |dk b=>unfold Ct at n';cases n'
  |non=>cases Iz r'
  |bl b=>cases Fk r'
  |int b=>cases By r'
  |str b=>cases Du r'
 |.lst xs,d',v,n,n',r,r'=>by
  obtain⟨a,vs,rfl,q,rr⟩:=De r;cases d' with
  |lst ys=>
   obtain⟨a',f9,e,q',bu⟩:=De r';cases e;have:=I.list_inj q q';subst this;unfold Ct at n n';rw[wk_]
  |tup ys=>
   obtain⟨a',f9,e,q',bu⟩:=Da r';cases e;exact(jR I q' q).elim
  |fn b=>unfold Ct at n';cases n'
  |dk b=>unfold Ct at n';cases n'
  |non=>cases Iz r'
  |bl b=>cases Fk r'
  |int b=>cases By r'
  |str b=>cases Du r'
 |.fn a,d',v,n,n',r,r'=>by unfold Ct at n;cases n
 |.dk a,d',v,n,n',r,r'=>by unfold Ct at n;cases n
theorem kY(I:d!):∀(ds es:b!) (vs:l_),Dw ds=true->Dw es=true->Bb X.K H ds vs->Bb X.K H es vs->ds=es
 |[],es,vs,n,n',r,r'=>by
  cases Fp r;cases es with
  |nil=>rfl
  |cons e es=>obtain⟨v,t,z,_⟩:=Dg r';cases z
 |d::ds,es,vs,n,n',r,r'=>by
  obtain⟨v,t,rfl,r1,r2⟩:=Dg r;cases es with
  |nil=>cases Fp r'
  |cons e es=>
   obtain⟨v',t',z,xx,xy⟩:=Dg r';cases z;unfold Dw at n n';rw[BI]at n n';rw[sY I d e v n.1 n'.1 r1 xx,kY I ds es t n.2 n'.2 r2 xy]
end
mutual
theorem nI:∀d:D,Ct d=true->Jb d d=true
 |.non,_=>by simp[Jb]
 |.bl b,_=>by simp[Jb]
 |.int i,_=>by simp[Jb]
 |.str s,_=>by simp[Jb]
 |.tup xs,h=>by unfold Jb;exact fH xs wl!
 |.lst xs,h=>by unfold Jb;exact fH xs wl!
 |.fn a,h=>by simp[Ct]at h
 |.dk k,h=>by simp[Ct]at h
theorem fH:∀ds:List D,Dw ds=true->Qr ds ds=true
 |[],_=>by simp[Qr]
 |d::ds,h=>by
  unfold Dw at h;rw[BI]at h;unfold Qr;rw[nI d h.1,fH ds h.2];rfl
end
theorem xO(I:d!)(d d':D)(v:V)(n:cG_)(n':fi_)(r:ef!)(r':Bn X.K H d' v):Jb d d'=true:=by rw[<-sY I d d' v n n' r r'];exact nI d n
theorem Yc(A:Around):A.in1.units=A.units+1:=rfl
theorem Xl:∀(xs ys:b!),k_=Z!->((List.range k_).all λj=>Jb (xs.getD j .non) (ys.getD j .non))=Qr xs ys
 |[],[],_=>rfl
 |x::xs,y::ys,h=>by
  have ih:=Xl xs ys jX_;unfold Qr;rw[AR,List.range_succ_eq_map,FM,<-ih,List.all_map];rfl
 |[],_::_,h=>by simp at h
 |_::_,[],h=>by simp at h
theorem Xh:∀(xs ys:b!),k_≠Z!->Qr xs ys=false
 |[],[],h=>absurd rfl h
 |x::xs,y::ys,h=>by
  unfold Qr;rw[Xh xs ys jX_,IH]
 |[],_::_,_=>rfl
 |_::_,[],_=>rfl
theorem cH{ds es:b!}{us us':h!}(rd:ha_)(re:hb!)(rv:ey_)(aj:Ci ws us')
  (h:∀(j:Nat) u u',us[j]?=some u->us'[j]?=some u'->SeqAt.EqAt A s u u' jY!):
  ∀j (B:j<jY_) (Y:j<ok!),SeqAt.EqAt A s cA_[j] ok_[j] jY!:=λj B Y=>by
 have l1:j<ap_:=by simpa using B
 have l2:j<us'.length:=by simpa using Y
 exact h j _ _ (by simp[l1]) (by simp[l2])
theorem qH{ds es:b!}{A:Around}(I:d!)(qa:jX!)(qb:Lp X.K H b ws)(rd:ha_)(re:hb!)(hu:ao!)
  (h:jZ!):SeqAt.RcAt A s ac! dV! (Qr ds es):=by
 obtain⟨us,rv,p1,_⟩:=I.tuple qa;obtain⟨us',aj,p2,_⟩:=I.tuple qb;have B:=Ar rd;have Y:=Ar re;have h3:=gh!;have h4:=jZ_;have z:=SeqAt.RcAt.tuples (A:=A) (e:=j0!) p1 p2 hu j0_;have e:wl_=Qr ds es:=by
  show"#4"
  .rw[hl,Nat.min_self,<-hl,j1!,hl];simp
  .rw[j1_];have:(f_==ag!)=false:=by simpa using hl
   rw[this,IH]
 rw[e]at z;exact z
theorem xU{ds es:b!}{A:Around}(I:d!)(qa:ol_)(qb:Kw X.K H b ws)(rd:ha_)(re:hb!)(hu:ao!)
  (h:jZ!):SeqAt.RcAt A s ac! dV! (Qr ds es):=by
 show"!B";have h4:=jZ_;by_cases hl:f_=ag!
 .have z:=SeqAt.RcAt.lists (A:=A) (e:=j0!) p1.isList p2.isList nW_ hu j0_;rw[AJ,<-h3,<-B,j1!]at z;exact z
 .rw[j1_];exact SeqAt.RcAt.lists_lengths p1.isList p2.isList wm! hu
theorem b6l(I:d!)(q:jX!):∃items,s.heap.IsTuple a items:=let⟨its,_,p,_⟩:=I.tuple q;⟨_,p⟩
theorem b0p(I:d!)(q:ol_):∃items,s.heap.IsList a items:=let⟨its,_,p,_⟩:=I.list q;⟨_,p.isList⟩
inductive RV(X:Cx)(H:Hp)(s:Shared):D->Value->Prop
 |non:RV X H s .non .none
 |bl (b:Bool):RV X H s bI_ lP!
 |int (i:Int) (t:Tok):RV X H s bv_ dx_
 |str (x:Str) (t:Tok):RV X H s dE_ lh_
 |tup {xs:b!} {a:Addr} {its:ab_}:s.heap.IsTuple a its->RV X H s bc! ac!
 |lst {xs:b!} {a:Addr} {its:ab_}:s.heap.IsList a its->RV X H s L! ac!
theorem qE(I:d!)(n:cG_)(r:ef!)(ru:bu_):RV X H s d u:=by
 cases d with
 |non=>cases Iz r;cases ru;exact .non
 |bl b=>cases Fk r;cases ru;exact .bl b
 |int b=>cases By r;obtain⟨t,rfl⟩:=ru;exact .int b t
 |str b=>cases Du r;obtain⟨t,rfl⟩:=ru;exact .str b t
 |tup ys=>obtain⟨a,ws,rfl,q,_⟩:=Da r;cases ru;obtain⟨its,p⟩:=b6l I q;exact .tup p
 |lst ys=>obtain⟨a,ws,rfl,q,_⟩:=De r;cases ru;obtain⟨its,p⟩:=b0p I q;exact .lst p
 |fn a=>unfold Ct at n;cases n
 |dk a=>unfold Ct at n;cases n
theorem Xi(I:d!){A:Around}(n:cG_)(n':fi_)(hu:ao!)(r:ef!)(r':hc!)(ru:bu_)(ap:hc_)(hT:∀xs ys,d=.tup xs->d'=.tup ys->SeqAt.EqAt A s u u' dl!)(hL:∀xs ys,d=.lst xs->d'=.lst ys->SeqAt.EqAt A s u u' dl!):SeqAt.EqAt A s u u' dl!:=by
 show"!l"
 all_goals first|exact hT _ _ rfl rfl|exact hL _ _ rfl rfl|(unfold Jb;with_reducible first|exact .none_none|exact .same _|exact .none_bool _|exact .none_int _ _|exact .none_str _ _|exact .none_tuple ‹_› hu|exact .none_list ‹_› hu|exact .bool_none _|exact .bool_bool _ _|exact .bool_int _ _ _|exact .bool_str _ _ _|exact .bool_tuple _ ‹_› hu|exact .bool_list _ ‹_› hu|exact .int_none _ _|exact .int_bool _ _ _|exact .int_int _ _ _ _|exact .int_str _ _ _ _|exact .int_tuple _ _ ‹_› hu|exact .int_list _ _ ‹_› hu|exact .str_none _ _|exact .str_bool _ _ _|exact .str_int _ _ _ _|exact .str_str _ _ _ _|exact .str_tuple _ _ ‹_› hu|exact .str_list _ _ ‹_› hu|exact .tuple_none ‹_› hu|exact .tuple_bool _ ‹_› hu|exact .tuple_int _ _ ‹_› hu|exact .tuple_str _ _ ‹_› hu|exact .tuple_list ‹_› ‹_› hu|exact .list_none ‹_› hu|exact .list_bool _ ‹_› hu|exact .list_int _ _ ‹_› hu|exact .list_str _ _ ‹_› hu|exact .list_tuple ‹_› ‹_› hu)
theorem c5o(I:d!){A:Around}(n:cG_)(n':fi_)(hu:ao!)(r:ef!)(r':hc!)(ru:bu_)(ap:hc_)(hT:∀xs ys,d=.tup xs->d'=.tup ys->SeqAt.RcAt A s u u' dl!)(hL:∀xs ys,d=.lst xs->d'=.lst ys->SeqAt.RcAt A s u u' dl!):SeqAt.RcAt A s u u' dl!:=by
 show"!l"
 all_goals first|exact hT _ _ rfl rfl|exact hL _ _ rfl rfl|(unfold Jb;with_reducible first|exact .none_none|exact .same _|exact .none_bool _|exact .none_int _ _|exact .none_str _ _|exact .none_tuple ‹_› hu|exact .none_list ‹_› hu|exact .bool_none _|exact .bool_bool _ _|exact .bool_int _ _ _|exact .bool_str _ _ _|exact .bool_tuple _ ‹_› hu|exact .bool_list _ ‹_› hu|exact .int_none _ _|exact .int_bool _ _ _|exact .int_int _ _ _ _|exact .int_str _ _ _ _|exact .int_tuple _ _ ‹_› hu|exact .int_list _ _ ‹_› hu|exact .str_none _ _|exact .str_bool _ _ _|exact .str_int _ _ _ _|exact .str_str _ _ _ _|exact .str_tuple _ _ ‹_› hu|exact .str_list _ _ ‹_› hu|exact .tuple_none ‹_› hu|exact .tuple_bool _ ‹_› hu|exact .tuple_int _ _ ‹_› hu|exact .tuple_str _ _ ‹_› hu|exact .tuple_list ‹_› ‹_› hu|exact .list_none ‹_› hu|exact .list_bool _ ‹_› hu|exact .list_int _ _ ‹_› hu|exact .list_str _ _ ‹_› hu|exact .list_tuple ‹_› ‹_› hu)
mutual
theorem b7b(I:d!):∀(d d':D) (A:Around) (v v':V) (u u':Value),Ct d=true->Ct d'=true->A.units+Ot d<cLine->Bn X.K H d v->Bn X.K H d' v'->Ds v u->Ds v' u'->SeqAt.EqAt A s u u' dl!
 |.non,d',A,v,v',u,u',n,n',hu,r,r',ru,ap=>Xi I n n' a! r r' ru ap a9_ a9_
 |.bl _,d',A,v,v',u,u',n,n',hu,r,r',ru,ap=>Xi I n n' a! r r' ru ap a9_ a9_
 |.int _,d',A,v,v',u,u',n,n',hu,r,r',ru,ap=>Xi I n n' a! r r' ru ap a9_ a9_
 |.str _,d',A,v,v',u,u',n,n',hu,r,r',ru,ap=>Xi I n n' a! r r' ru ap a9_ a9_
 |.fn _,d',A,v,v',u,u',n,n',hu,r,r',ru,ap=>Xi I n n' a! r r' ru ap a9_ a9_
 |.dk _,d',A,v,v',u,u',n,n',hu,r,r',ru,ap=>Xi I n n' a! r r' ru ap a9_ a9_
 |.tup xs,d',A,v,v',u,u',n,n',hu,r,r',ru,ap=>Xi I n n' a! r r' ru ap (λ_ ys e e'=>by
  cases e;subst e';obtain⟨a,vs,rfl,q,rr⟩:=Da r;obtain⟨b,ws,rfl,q',bu⟩:=Da r';cases ru;cases ap;by_cases kz:a=b
  .subst kz;rw[wo!];exact .same _
  .unfold Ct at n n';unfold Ot at hu;unfold Jb;exact .of_refs kz (qH I q q' rr bu a! λus us' rv aj=>Ua I xs ys A.in1 vs ws us us' n n' fj! rr bu rv aj)) a9_
 |.lst xs,d',A,v,v',u,u',n,n',hu,r,r',ru,ap=>Xi I n n' a! r r' ru ap a9_ (λ_ ys e e'=>by
  cases e;subst e';obtain⟨a,vs,rfl,q,rr⟩:=De r;obtain⟨b,ws,rfl,q',bu⟩:=De r';cases ru;cases ap;by_cases kz:a=b
  .subst kz;rw[wo!];exact .same _
  .unfold Ct at n n';unfold Ot at hu;unfold Jb;exact .of_refs kz (xU I q q' rr bu a! λus us' rv aj=>Ua I xs ys A.in1 vs ws us us' n n' fj! rr bu rv aj))
theorem Ua(I:d!):∀(ds es:b!) (A:Around) (vs ws:l_) (us us':h!),Dw ds=true->Dw es=true->A.units+Gz ds<cLine->Bb X.K H ds vs->Bb X.K H es ws->Ci vs us->Ci ws us'->
  ∀(j:Nat) u u',us[j]?=some u->us'[j]?=some u'->SeqAt.EqAt A s u u' jY!
 |[],es,A,vs,ws,us,us',n,n',hu,r,r',rv,aj,j,u,u',e,e'=>by
  cases Fp r;cases rv;simp at e
 |d::ds,es,A,vs,ws,us,us',n,n',hu,r,r',rv,aj,j,u,u',e,e'=>by
  obtain⟨v,t,rfl,r1,r2⟩:=Dg r;cases es with
  |nil=>
   cases Fp r';cases aj;simp at e'
  |cons c es=>
   obtain⟨w,t',rfl,xx,xy⟩:=Dg r';unfold Dw at n n';rw[BI]at n n';unfold Gz at hu;cases rv with
   |cons oy rf=>
    cases aj with
    |cons QN QO=>
     cases j with
     |zero=>
      simp at e e';subst e e';exact b7b I d c A v w _ _ n.1 n'.1 a! r1 xx oy QN
     |succ j=>
      exact Ua I ds es A t t' _ _ n.2 n'.2 a! r2 xy rf QO j u u' cQ! (by simpa using e')
end
theorem c5p(I:d!)(d d':D){A:Around}(n:cG_)(n':fi_)(hu:wo_)(r:ef!)(r':hc!)(ru:bu_)(ap:hc_):SeqAt.RcAt A s u u' dl!:=
 c5o I n n' a! r r' ru ap (λxs ys e e'=>by
  subst e e';obtain⟨a,vs,rfl,q,rr⟩:=Da r;obtain⟨b,ws,rfl,q',bu⟩:=Da r';cases ru;cases ap;unfold Ct at n n';unfold Ot at hu;unfold Jb;exact qH I q q' rr bu a! λus us' rv aj=>Ua I xs ys A.in1 vs ws us us' n n' fj! rr bu rv aj) (λxs ys e e'=>by
  subst e e';obtain⟨a,vs,rfl,q,rr⟩:=De r;obtain⟨b,ws,rfl,q',bu⟩:=De r';cases ru;cases ap;unfold Ct at n n';unfold Ot at hu;unfold Jb;exact xU I q q' rr bu a! λus us' rv aj=>Ua I xs ys A.in1 vs ws us us' n n' fj! rr bu rv aj)
noncomputable def d0x(K:W.Frag):R2:=λx y H Q=>∃dx dy,Bn K H dx x/\Bn K H dy y/\Ct dx=true/\Ct dy=true/\Ot dx<=40/\Q (.bl (Jb dx dy)) H
theorem Dl(hu:aG_):Ml X (compareOp .Eq) (d0x X.K):=by intro O s Z H x y v u Q I rx ry h;obtain⟨dx,dy,r1,r2,n1,n2,hd,q⟩:=h;exact c5p I dx dy n1 n2 a! r1 r2 rx ry X.prog X.w X.xe _ j2!
noncomputable def Bu:D->D->Option D:=λx y=>if Ct x&&Ct y&&decide (Ot x<=40)then some (.bl (Jb x y))else none
theorem Dm{K:W.Frag}:Po K (d0x K) Bu:=by
 show"!/";unfold Bu at e;show"!7"
 .show"!t";cases e;exact wp!
 .cases e
end
section
variable{X:Cx}{own:List Nat}{e a b c o i tg:Expr}{es:List Expr}{pos p2:Pos}{f fa fb fc fe:Ag->Option D}{fs fi:Ag->Option (List D)}{ft fu:Ag->Option Bool}
noncomputable def Ep(g g':aV_)(fa fb fc:e!):Ag->Option D:=λρ=>(fb!).bind λx=>(jC_).bind λy=>(g x y).bind λz=>match z with
 |.bl true=>(fc ρ).bind λu=>g' y u
 |.bl false=>some Y_
 |_=>none
theorem a0q{op dz:CmpOp}{r r':R2}{g g':aV_}(ho:b6_)(hg:eb_)(c9:iz!)(rg:Po X.K r' g')(ha:W_)(J:cD_)(hc:DE X own c fc)
  (hm:iz_:=by with_unfolding_all rfl):DE X own iA! wp_:=
 Im (b4q ho c9 ha.ok J.ok hc.ok hm) λZ G H Q ρ d er e k=>by
  obtain⟨x,e1,e⟩:=AB.mp e;obtain⟨y,e2,e⟩:=AB.mp e;obtain⟨z,e3,e⟩:=AB.mp e;refine wq_;have mi:=s1.trans gY_;cases z<;>first|cases e|skip
  rename_i bb;cases Fk r3;refine wr!;cases bb with
  |true=>
   obtain⟨u,e4,e⟩:=AB.mp e;exact Ww ⟨G3,ρ,u,er.grow mi,e4,λq G4 H4 s4 r4=>rg s4.sub wr_ r4 e λv G5 H5 s5 r5=>k v G5 H5 ws! r5⟩
  |false=>
   cases e;exact Wx (k _ G3 H3 mi Bn.bl)
noncomputable def d2i(f:e!):Ag->Option D:=λρ=>(aj!).bind λd=>match d with|.int i=>some (.int (-i))|_=>none
theorem b7o(h:W_):DE X own (.UnaryOp .USub a pos) (d2i fa):=
 Im (d1b c4y h.ok) λZ G H Q ρ d er e k=>by
  obtain⟨x,e1,e⟩:=AB.mp e;cases x<;>first|cases e|skip
  refine fe!;cases By r1;exact⟨_,rfl,k _ G1 H1 s1 Bn.int⟩
noncomputable def d0o:R2:=λx y H Q=>∃z n,x=.str z/\y=.int n/\PySem.MulOk z n/\Q wt_ H
theorem c0y:Ml X mi_ d0o:=by intro O s Z H x y v u Q I rx ry h;obtain⟨z,n,rfl,rfl,hm,q⟩:=h;obtain⟨t,rfl⟩:=rx;obtain⟨t',rfl⟩:=ry;exact SB.mul hm λt' tk=>mx_
noncomputable def Uq:D->Bool
 |.non=>true
 |.bl _=>true
 |.int _=>true
 |.str _=>true
 |_=>false
theorem a0f{K:W.Frag}{H:Hp}(h:Uq d=true)(r:gU!):Zg v=true:=by
 cases d<;>first
  |(cases h;done)
  |(cases Iz r;rfl)
  |(cases Fk r;rfl)
  |(cases By r;rfl)
  |(cases Du r;rfl)
theorem c2g{K:W.Frag}{H:Hp}(h:Uq d=true)(h':Uq d'=true)(r:gU!)(r':Bn K H d' v'):eqV v v'=Jb d d':=by
 cases d<;>first
  |(cases h;done)
  |skip
 all_goals (cases d'<;>first
  |(cases h';done)
  |skip)
 all_goals first
  |(cases Iz r)
  |(cases Fk r)
  |(cases By r)
  |(cases Du r)
 all_goals first
  |(cases Iz r')
  |(cases Fk r')
  |(cases By r')
  |(cases Du r')
 all_goals simp[eqV,Jb]
theorem a0h{K:W.Frag}{H:Hp}:∀{ds:b!} {vs:l_},ds.all Uq=true->Bb K H ds vs->vs.all Zg=true
 |[],vs,_,r=>by cases Fp r;rfl
 |d::ds,vs,h,r=>by
  obtain⟨v,t,rfl,r1,r2⟩:=Dg r;rw[FM,BI]at h;rw[FM,BI];exact⟨a0f h.1 r1,a0h h.2 r2⟩
theorem a0g{K:W.Frag}{H:Hp}(L:Uq x=true)(rx:Bn K H x v):∀{ds:b!} {vs:l_},ds.all Uq=true->Bb K H ds vs->inV v vs=ds.any λd=>Jb d x
 |[],vs,_,r=>by cases Fp r;rfl
 |d::ds,vs,h,r=>by
  obtain⟨w,t,rfl,r1,r2⟩:=Dg r;rw[FM,BI]at h;have ih:=a0g L rx h.2 r2;unfold inV at ih ⊢;rw[EO,EO,ih,c2g h.1 L r1 rx]
noncomputable def c7f:D->Option aL_
 |.tup xs=>some xs
 |.lst xs=>some xs
 |_=>none
noncomputable def a4d(neg:Bool):D->D->Option D:=λx y=>(c7f y).bind λds=>if Uq x&&ds.all Uq then some wu_ else none
theorem d1k{K:W.Frag}{neg:Bool}:Po K (rIn K neg) (a4d neg):=by
 show"!/";show"!I"
 .rename_i h;rw[BI]at h;cases e;have fin:∀{p:Addr} {vs:l_},(Kw K H p vs\/Lp K H p vs)->Bb K G ds vs->y=V.ref p->rIn K neg x y H Q:=λ{p vs} q r ey=>by
   refine⟨p,vs,ey,q,a0f h.1 rx,a0h h.2 r,?_⟩;rw[a0g h.1 rx h.2 r];show"!q"
  cases dy<;>first|(cases e1;done)|skip
  .cases e1;obtain⟨p,vs,ey,q,r⟩:=Da ry;exact fin (.inr g3_) r ey
  .cases e1;obtain⟨p,vs,ey,q,r⟩:=De ry;exact fin (.inl n6!) r ey
 .cases e
structure a1k(X:Cx)(x:Str)(bj:aN!):Prop where
 ex:∃(ad:Addr) (kvs:nE!) (vs:List wv!),X.mg x=some j2_/\on_=false/\(∀h:Heap,X.K.In h->h.DictOf (mixKind X.prog X.w) ad vs)/\KV kvs vs/\
  (∀y,aV kvs ef_=none↔bj.lookup y=none)/\∀y d,bj.lookup y=some d->∃v,aV kvs ef_=some v/\∀H,Bn X.K H d v
noncomputable def c2d(bj:aN!)(neg:Bool)(f:e!):Ag->Option D:=λρ=>(aj!).bind λd=>match d with|.str y=>some (.bl (if neg then !(oo!).isSome else(oo!).isSome))|_=>none
noncomputable def a7q(bj:aN!)(f:e!):Ag->Option D:=λρ=>(aj!).bind λd=>match d with|.str y=>bj.lookup y|_=>none
theorem c2s{x:Str}{bj:aN!}(hd:a1k X x bj)(hg:R_)(ha:W_)(br:d2x a)(bc:G!:=by decide):DE X own (.Subscript di! a pos) (a7q bj fa):=by
 show"#F";refine Im (t:=λZ H Q=>tD X.K own fa Z H λv H1=>∃y u,v=.str y/\aV kvs ef_=some u/\Q u H1) ww! λZ G H Q ρ d er e k=>?_
 .refine b9i PySem.F.slot_dict_getitem.lookup br (Tr I hg jx (Gq ww_ λv s1 ⟨y,H1,I1,r1,z,u,hz,hu,q1⟩=>?_) bc);subst hz;have dd:=xz _ I1.kIn;obtain⟨w',hw,aj⟩:=dI.some_of (v:=u) (o:=valueAt vs oo_) (by rw[<-hu];exact ya.val oo_);have ty:s1.TypeIs j2_ "dict":=by
   obtain⟨o,es,ep,B,Y,_⟩:=dd;exact⟨o,B,Y.1⟩
  exact⟨ty,wpAny_getItem_of (knd:=wx!) (k:=op!) wx_ dd.mapOf hw ⟨u,H1,I1.tok _,aj,q1⟩⟩
 .obtain⟨x,e1,e⟩:=AB.mp e;cases x<;>first|(cases e;done)|skip
  rename_i y;obtain⟨v,hv,hr⟩:=hs y d e;refine⟨G,ρ,_,er,e1,λw G1 H1 s1 r1=>?_⟩;cases Du r1;exact⟨y,v,rfl,hv,k _ G1 H1 s1 (hr G1)⟩
noncomputable def Ok(P:Program)(w:World)(K:W.Frag)(mg:A!)(base:Heap)(k:Nat)(x:Str)(ps:p!)(g:X!):Prop:=
 ∃σ fd,Ks P w K mg base iR k σ fd ps jW!/\Jx K fd ps []/\mg x=some bS!/\W.keepIn K bS!=true
theorem Bg{k:Nat}{ps:p!}{g:X!}{x:Str}(F:wy!)(hr:b7_)(hg:R_)(ha:g0!)(al:vE!)
  (hn:vE_:=by rfl)(bc:G!:=by decide)(he:al_:=by rfl)(ax:aR_:=by rfl):
  DE X own bh! jG!:=by
 obtain⟨σ,fd,B,Y,h3,h4⟩:=F;exact c2t B hr hg h3 h4 Y ha hn al bc he ax
noncomputable def c4v(P:Program)(w:World)(K:W.Frag)(mg:A!)(base:Heap)(k n:Nat)(bj:op_):Prop:=
 ∀σ g,bj σ=some g->∃fd ps,S_=n/\Ks P w K mg base iR k σ fd ps jW!/\Jx K fd ps []/\W.keepIn K bS!=true
noncomputable def fG(bj:op_)(i:Nat)(fs:an!):Ag->Option D:=λρ=>(Aa i ρ).bind λd=>match d with|.fn σ=>(bj σ).bind λg=>(fb_).bind g|_=>none
theorem b7p{k n j:Nat}{bj:op_}{x:Str}(F:c4v X.prog X.w X.K X.mg X.base k n bj)(hr:b7_)(ha:g0!)(al:vF!)
  (hj:j∉own:=by decide)(hN:uS_:=by rfl)(hv:cX_:=by first|exact Or.inl rfl|exact Or.inr b_|exact Or.inr bm!)(bc:G!:=by decide)(bv:cY!:=by decide)
  (he:al_:=by rfl)(ax:aR_:=by rfl):
  DE X own bh! (fG bj j fs):=⟨by
 intro O s Z H Q I h;obtain⟨G,ρ,d,er,e1,kk⟩:=h;obtain⟨z,e2,e1⟩:=AB.mp e1;cases z<;>first|(cases e1;done)|skip
 rename_i σ;obtain⟨g,e3,e1⟩:=AB.mp e1;obtain⟨ds,e4,e1⟩:=AB.mp e1;obtain⟨fd,ps,k8,F1,F2,F3⟩:=F σ g e3;obtain⟨v,B,Y⟩:=er.at_ j _ (join_some e2) hj;cases Ly Y;refine EU (Gq (Zw hN hv bc bv O s Z H (λu H'=>u=.ref σ/\H'=H) I ⟨_,B,rfl,rfl⟩) λu s1 ⟨y,H1,I1,r1,hy,hH⟩=>?_);subst hy hH;cases r1;refine W.callWith_K (h₀:=X.base) I1.ok.mod.kin F3 (Gq (ha.ok pos O s1 Z H1 _ I1 ⟨G,ρ,ds,er,e4,λvs G2 H2 s2 r2=>(?_:(λvs H2=>spF X.K ps.length g vs H2 Q E0) vs H2)⟩) λus s2 ⟨vs,H2,I2,r2,q2⟩=>tb!) he ax
 .exact⟨by rw[<-Ar r2,al ρ ds e4,k8],G2,ds,d,s2.sub,r2,e1,λv G3 H3 s3 r3=>kk v G3 H3 gY_ r3⟩
 .exact sX (dvs:=[]) (ds:=[]) F1 hr F2 .nil lK I2 r2 (by rw[BL];exact q2)⟩
noncomputable def Its(x:Str):It:=⟨wz!,λi H v H'=>H'=H/\∃c,x.cps[i]?=some c/\v=.str am!,wz_⟩
noncomputable def c7j(f:e!):Ag->Option aL_:=λρ=>(aj!).bind λd=>match d with|.str x=>some wA!|_=>none
theorem c1s{K:W.Frag}{G1:Hp}{x:Str}:ItD K j3_ wA! G1:=by intro i G' H' s1 s2;refine⟨ed!,λhi=>by rw[AW,CH]at hi;exact GX hi.symm⟩;rw[BS]at hd;obtain⟨c,hc,rfl⟩:=AL.mp hd;rw[EQ]at hc;refine wA_;obtain⟨e1,c',bp,e2⟩:=hy;subst e1;rw[hc]at bp;cases bp;subst e2;exact⟨G',jL!,Bn.str⟩
theorem wR{K:W.Frag}{x:Str}{St':dI!}(hd:wB!)
  (W:∀A':Around,oq!=none->Walks P w A' it [it] [it] x.cps.size (SignAt x) St')(QP:∀(A:Around) (i:Nat) (s:Shared) (Q:p_) (E:p_),St' i s.heap->Q b2_ s->wpAny J! A (pyIter b2_) Q E s):
  wH P w K hd! j3_ [it] it wB_ where
 mem:=by simp
 obj:=λi h st b J=>by
  have e:b=it:=by simpa using J
  subst e;exact hd i h st.2
 keep:=λi h h' st k=>⟨st.1,by
  have Wd:=W callerA rfl;exact Wd.frame i h h' st.2 λb J o e=>k b J o e⟩
 item:=by
  show"!0";show"!2";refine(W X.A bJ_).item i s _ _ hg st.2 λv h' tk hv h1 kk=>?_;obtain⟨cc,u,ju,rfl⟩:=hv;show"!^";exact⟨_,rfl,AC ⟨.str ⟨#[cc]⟩,H,I1,⟨u,rfl⟩,⟨rfl,cc,ju,rfl⟩,⟨hg,h1⟩,l7!⟩⟩
 done:=by
  show"!0";show"!2";show"#D";exact(W X.A bJ_).done s _ _ st.2 λh' tk kk=>⟨rfl,I.turned l8! f0 f1 f3 f4 f5⟩
 self:=λA i s Q E st h=>QP A i s Q E st.2 h
theorem c6a{tl:TE}(hl:PE X a tl):PI X hd! a (λZ H R=>tl Z H λv H1=>∃x,v=.str x/\R j3_ H1):=by
 intro O s Z H R I h;refine Gq rK_ λv s1 ⟨u,H1,I1,r1,x,L,q⟩=>?_;subst L;obtain⟨t,rfl⟩:=r1;have LG:∀(ty:String) (i:Nat) (h:Heap),h.IsStrIter s1.heap.objs.size ty x t i->∃o,h.get? D!=some o/\∀v,o.data≠.cell v:=λty i h st=>by
  show"##"
 have fin:∀(ob:Obj) (St':dI!),wH X.prog X.w X.K hd! j3_ [D!] s1.heap.objs.size wB_->St' 0 (s1.heap.push ob)->
   PIE X O Z hd! R (.ref D!) {s1 with heap:=s1.heap.push ob}:=λob St' T st=>by
  refine⟨D!,[D!],_,_,H1,rfl,l9_,T,⟨CG _,st⟩,bL!,q⟩;have e:b=D!:=by simpa using J
  show"!m"
 cases ha:x.cps.all (·<128)with
 |false=>
  exact wpAny_pyIter_wide ha (fin _ _ (wR wD_ (λA' hA=>Walks.strWide hA _ x t) λA i s Q E st h=>wpAny_pyIter_striter_wide st h) eG!)
 |true=>
  exact wpAny_pyIter_ascii ha (fin _ _ (wR wD_ (λA' hA=>Walks.strAscii hA _ x t) λA i s Q E st h=>wpAny_pyIter_striter_ascii st h) eG!)
theorem c7x(h:W_):DI X own hd! a (c7j fa):=a0m (c6a h.ok) λZ G H R ρ ds er e k=>by
 obtain⟨d,e1,e2⟩:=AB.mp e;cases d with
 |str x=>
  cases e2;refine fe!;cases Du r1;exact⟨x,rfl,k _ G1 H1 s1 c1s⟩
 |_=>cases e2
theorem pP:∀{ys:p!} {us:h!},Ci wE_ us->StrsAre us ys
 |[],_,.nil=>.nil
 |y::ys,_,.cons r t=>by
  obtain⟨k,rfl⟩:=r;exact .cons y k (pP t)
noncomputable def d0p(K:W.Frag):V->List V->Hp->VK->Prop:=λx vs H Q=>∃(z:Str) (p:Addr) (ys:p!),x=.str z/\vs=gF_/\Kw K H p wE_/\(j4!).sum+Z!*dV_<=16777216/\Q wF! H
theorem a7b:MtR X "str.join" (d0p X.K):=by intro O s Z H x xs v us Q I rx r h;obtain⟨z,p,ys,rfl,rfl,hq,hz,q⟩:=h;obtain⟨t,rfl⟩:=rx;obtain⟨u,rfl,r1⟩:=aU r;cases r1;obtain⟨its,rv,pl,_⟩:=I.list hq;exact join_list pl.isList (by simpa using pP rv) hz λt' k=>mx_
noncomputable def jS:List D->Option (List Str)
 |[]=>some []
 |.str x::r=>(jS r).map (x::·)
 |_=>none
theorem kW{K:W.Frag}{H:Hp}:∀{ds:b!} {vs:l_} {ys:p!},Bb K H ds vs->jS ds=some ys->vs=ys.map V.str
 |[],vs,ys,r,e=>by cases Fp r;cases e;rfl
 |d::ds,vs,ys,r,e=>by
  obtain⟨v,t,rfl,r1,r2⟩:=Dg r;cases d<;>first|(cases e;done)|skip
  obtain⟨QQ,e1,rfl⟩:=AL.mp e;cases Du r1;rw[kW r2 e1];rfl
noncomputable def Wv:D->D->Option D
 |.str z,.lst xs=>(jS xs).bind λys=>if(j4!).sum+Z!*dV_<=big then some wF! else none
 |_,_=>none
noncomputable def b6w(fo fa:e!):Ag->Option D:=λρ=>(fo ρ).bind λx=>(fb!).bind λy=>Wv x y
theorem c2q{fo:e!}{ag ac:Pos}(ho:DE X own o fo)(ha:W_)
  (eh:attributeBase o "join" X.env dH_=eval o X.env:=by rfl)
  (gk:((oq_).all cx_&&(cy!).all cy_
   &&decide or!)=true:=by rfl)
  (ez:c7_:=by rfl) (hs:jM!:=by rfl) (gn:g8!:=by rfl):
  DE X own (.Call (.Attribute o "join" ag) [a] [] ac) (b6w fo fa):=
 Im (qL PySem.F.plainAttrs_str PySem.F.slot_str_join PySem.F.type_str_join a7b ho.ok wF_ eh gk ez hs gn) λZ G H Q ρ d er e k=>by
  show"!<";obtain⟨y,e2,e⟩:=AB.mp e;unfold Wv at e;show"!7"
  .obtain⟨ys,e3,e⟩:=AB.mp e;show"!7"
   .show"!D";refine fe!;cases Du r1;refine⟨rfl,G1,ρ,_,de!,e2,wG!⟩;obtain⟨p,vs,rfl,q,rr⟩:=De r2;have:=kW rr e3;subst this;exact⟨_,p,ys,rfl,rfl,s2.sub.seq q,BN hl c!,k _ G2 H2 df! Bn.str⟩
   .cases e
  .cases e
end
section
variable{prog:Program}{w:World}{A:Around}{E:Value->Shared->Prop}{s:Shared}
theorem tX{n:Nat}{xs:ab_}{Q:p_}(g1:wG_)(g2:wH!)(g3:xs[n]?=some v)
  (k:∀h',h'.IsTupleIter jt tt cF_->Heap.SameBut jt s.heap h'->Q v {s with heap:=h'}):wpAny n_ A wH_ Q E s:=by
 show"!v";refine AA (JC eo ed d_ (AC ⟨v,rfl,AC (k _ ?_ eg!)⟩));exact⟨_,FU _ eo (Obj.isFreed_of_fields (HN ed _)),(wM!).trans ec,by rw[HN ed];simp[rawInt]⟩
theorem lS{n:Nat}{xs:ab_}{Q:p_}(hh:eT_)(g1:wG_)(g2:wH!)(g3:xs[n]?=none)
  (k:∀h' e,Heap.ExtBut jt s.heap h'->(∃o,h'.get? e=some o/\o.cls=.type "StopIteration")->E (.ref e) {s with heap:=h'}):wpAny n_ A wH_ Q E s:=by
 show"!v";refine AA (DY (AA (JC eo ed d_ ?_)));show wpAny _ _ wM_ _ _ _;refine AA ?_;simp only[newExc,newTuple];refine AA (DC ?_ j5!);refine AA (m:=wN!) (wpAny_of_eq (a:=cP_) wN_ ?_);refine DC ?_ j5!;simp only[raiseNew];refine AA wO!
 first|rw[wO_]|rw[hh]
 refine AA wP!;exact k _ _ wQ_ os!
theorem Dv{h h':Heap}{n:Nat}(x:h.IsTupleIter aa tt n)(hs:Heap.ExtBut bb h h')(ne:aa≠bb):h'.IsTupleIter aa tt n:=let⟨ob,eo,r⟩:=x;⟨ob,hs _ _ ne eo,r⟩
theorem a1s{TI TO:Addr}{k1 k2:Nat}{xs ys:ab_}{Q:p_}(D:j5_)
  (gz:j6!)(gI:j7!)(gO:j7_)
  (g1:j8_)(g2:j9!)(ig:he_)(il:hf!)(gx:wS!)(gy:wS_)
  (kk:∀h',IsZip h' z TI TO (rawInt q!)->IsPair h' TO x y->h'.IsTupleIter i1 l1 (k1+1)->h'.IsTupleIter i2 l2 (k2+1)->IsPair h' s.heap.objs.size x y->
   j9_->Q c1_ {s with heap:=h'}):
  wpAny n_ A wT_ (λfin s'=>∃v,fin=.done (.ret v)/\Q v s') E s:=by
 show"!~"
 replace k9:IsZip B z TI TO .ellipsis:=k9
 refine AA ?_;simp only[FV,HX,FH,HC];refine AA kb!;show wpAny _ _ w0! _ _ _;refine AA w1_;have rh:IsPair Y TO p q:=bm.extBut _ _ D.TOi1 w2!;refine AA w5!;refine AA w3!
 replace vh:IsPair h3 TO x q:=vh
 refine AA (IB ad_);refine AA kb!;show wpAny _ _ w4_ _ _ _;refine AA (tX w5_ w6! gy λh4 QR jg=>AC ?_);have LI:IsPair h4 TO x q:=jg.extBut _ _ D.TOi2 vh;refine AA (FI LI rfl ?_);refine AA (IW LI λh5 vi lb=>?_)
 replace vi:IsPair h5 TO x y:=vi
 refine AA (IB (AC ad_));refine AA (FI vi rfl ?_);refine AA (wpAny_newTuple ?_);have sz:fk_=q!:=by rw[lb.1,jg.1,c7.1,bm.1,b6.1]
 have LJ:IsZip h5 z TI TO .ellipsis:=lb.extBut _ _ D.TOz.symm (jg.extBut _ _ D.i2z.symm w6_);have QS:∀c ob,c≠z->c≠TO->c≠i1->c≠i2->s.heap.get? c=some ob->h5.get? c=some ob:=λc ob c1 c2 c3 c4 e=>lb.extBut _ _ c2 (jg.extBut _ _ c4 (c7.extBut _ _ c2 (bm.extBut _ _ c3 (b6.extBut _ _ c1 e))));have QT:h5.IsTupleIter i1 l1 (k1+1):=Dv (Dv (Dv LH c7.extBut D.TOi1.symm) jg.extBut D.i12) lb.extBut D.TOi1.symm;have QU:h5.IsTupleIter i2 l2 (k2+1):=Dv QR lb.extBut D.TOi2.symm;have LK:z<fk_:=BF LJ;show wpAny _ _ (Builtin.SmallTypes.ownedTupleHandOut dl_ (.ref fk_)>>=_) _ _ _;refine AA ?_;unfold Builtin.SmallTypes.ownedTupleHandOut;have QV:IsZip (h5.push {cls:=.type "tuple",data:=.seq #[x,y]}) z TI TO .ellipsis:=AG _ LJ;refine AA (FO QV d_ λh7 yd LL=>?_)
 replace yd:IsZip h7 z TI TO (rawInt fk_):=yd
 refine FO yd d_ λh8 vj LM=>?_
 replace vj:IsZip h8 z TI TO (rawInt fk_):=vj
 have up:∀c ob,c≠z->h5.get? c=some ob->h8.get? c=some ob:=λc ob c1 e=>LM.extBut _ _ c1 (LL.extBut _ _ c1 (AG _ e));have LN:IsPair h8 h5.objs.size x y:=LM.extBut _ _ (GL LK) (LL.extBut _ _ (GL LK) ou_);rw[sz]at vj LN;refine AC ov!;show Q (.ref fk_) _;rw[sz];obtain⟨vk,QW,r1⟩:=QT;obtain⟨oz,QX,r2⟩:=QU;exact kk h8 vj (up _ _ D.TOz vi) ⟨vk,up _ _ D.i1z QW,r1⟩ ⟨oz,up _ _ D.i2z QX,r2⟩ LN λc ob c1 c2 c3 c4 e=>up c ob c1 (QS c ob c1 c2 c3 c4 e)
theorem a8j{TI TO:Addr}{k1 k2:Nat}{xs ys:ab_}{Q:Fin->Shared->Prop}(hh:eT_)(D:j5_)
  (gz:j6!)(gI:j7!)(gO:j7_)
  (g1:j8_)(g2:j9!)(ig:he_)(il:hf!)(ge:w9!)
  (kk:∀h' e,j9_->(∃ob,h'.get? e=some ob/\ob.cls=.type "StopIteration")->E (.ref e) {s with heap:=h'}):
  wpAny n_ A wT_ Q E s:=by
 show"!~"
 replace k9:IsZip B z TI TO .ellipsis:=k9
 refine AA ?_;simp only[FV,HX,FH,HC];refine AA kb!;show wpAny _ _ w0! _ _ _;cases gx:xs[k1]? with
 |none=>
  refine AA (lS hh w0_ w1! gx λY e bm he=>?_);obtain⟨oe,mj,rj⟩:=he;have LO:IsZip Y z TI TO .ellipsis:=bm _ _ D.i1z.symm k9;have ye:e≠z:=λx=>by subst x;rw[LO]at mj;cases mj;simp at rj
  refine FO LO d_ λh3 _ c7=>kk h3 e (λc ob c1 _ c3 _ x=>c7.extBut _ _ c1 (bm _ _ c3 w9_)) ⟨oe,c7.extBut _ _ ye mj,rj⟩
 |some x=>
  have gy:ys[k2]?=none:=by
   rcases ge with h|h
   .rw[gx]at h;cases h
   .exact h
  refine AA w1_;have rh:IsPair Y TO p q:=bm.extBut _ _ D.TOi1 w2!;refine AA w5!;refine AA w3!;refine AA (IB ad_);refine AA kb!;show wpAny _ _ w4_ _ _ _;refine AA (lS hh w5_ w6! gy λh4 e jg he=>?_);obtain⟨oe,mj,rj⟩:=he;have LP:IsZip h4 z TI TO .ellipsis:=jg _ _ D.i2z.symm w6_;have ye:e≠z:=λx=>by subst x;rw[LP]at mj;cases mj;simp at rj
  refine FO LP d_ λh5 _ lb=>kk h5 e (λc ob c1 c2 c3 c4 x=>lb.extBut _ _ c1 (jg _ _ c4 (c7.extBut _ _ c2 (bm.extBut _ _ c3 w9_)))) ⟨oe,lb.extBut _ _ ye mj,rj⟩
theorem a2x{TI TO:Addr}{k1 k2:Nat}{xs ys:ab_}{p:Value}{Q:fl!}(D:j5_)
  (gz:j6!)(gI:j7!)(gO:j7_)
  (g1:j8_)(g2:j9!)(ig:he_)(il:hf!)(gx:wS!)(gy:wS_)
  (kk:∀h',IsZip h' z TI TO (rawInt q!)->IsPair h' TO x y->h'.IsTupleIter i1 l1 (k1+1)->h'.IsTupleIter i2 l2 (k2+1)->IsPair h' s.heap.objs.size x y->
   j9_->Q (some c1_) {s with heap:=h'}):
  wpAny n_ A (pyNext dl_) Q E s:=by
 have gT:s.TypeIs dl_ "zip":=xa!;unfold pyNext;exact AA (HA (CM (name:=j4_) gT IU (BX IU gT xa_
  (a1s D gz gI gO g1 g2 ig il gx gy λh' a1 a2 a3 a4 a5 a6=>AC (kk h' a1 a2 a3 a4 a5 a6)) xb!)))
theorem oP{TI TO:Addr}{k1 k2:Nat}{xs ys:ab_}{p:Value}{Q:fl!}(hh:eT_)(D:j5_)
  (gz:j6!)(gI:j7!)(gO:j7_)
  (g1:j8_)(g2:j9!)(ig:he_)(il:hf!)(ge:w9!)
  (kk:∀h',j9_->Q none {s with heap:=h'}):wpAny n_ A (pyNext dl_) Q E s:=by
 have gT:s.TypeIs dl_ "zip":=xa!;unfold pyNext;refine AA (HA (CM (name:=j4_) gT IU (BX IU gT xa_
  (a8j hh D gz gI gO g1 g2 ig il ge λh' e hk he=>?_) xb!)))
 obtain⟨ob,ho,hc⟩:=he;exact AA (wpAny_isInstance (T:=xc!) (b:=true) ⟨ob,ho,hc⟩ isSubtype_stop (AC (kk _ hk)))
abbrev zp1(h:Heap)(l1:Addr):Heap:=h.push {cls:=.type "tuple_iterator",data:=.fields #[.ref l1,.int 0 0]}
abbrev zp2(h:Heap)(l1 l2:Addr):Heap:=(zp1 h l1).push {cls:=.type "tuple_iterator",data:=.fields #[.ref l2,.int 0 0]}
abbrev zp3(h:Heap)(l1 l2:Addr):Heap:=(zp2 h l1 l2).push {cls:=.type "tuple",data:=.seq #[.ref cQ_,.ref (zp1 h l1).objs.size]}
abbrev zp4(h:Heap)(l1 l2:Addr):Heap:=(zp3 h l1 l2).push {cls:=.type "tuple",data:=.seq #[.none,.none]}
abbrev zp5(h:Heap)(l1 l2:Addr):Heap:=(zp4 h l1 l2).push {cls:=.type "zip",data:=.fields #[.none,.bool false,.bool false,.ref (zp2 h l1 l2).objs.size,.ref (zp3 h l1 l2).objs.size]}
theorem a3r(l1 l2:Addr)(xs ys:ab_):
  Meets (Builtin.«zip.__new__» ⟨[.type "zip",.ref l1,.ref l2],[]⟩) (λ_ R s=>s.heap.IsTuple l1 xs/\s.heap.IsTuple l2 ys/\R (.ok (.ret (.ref (oy_).objs.size))) {s with heap:=zp5 s.heap l1 l2}):=
 .of_wp λprog w A R s h=>by
  obtain⟨hp,g,d,tk,os⟩:=s;obtain⟨ig,il,h⟩:=h;have WU:=sub_zip;have QY:Heap.IsTuple (Shared.heap hg!) l1 xs:=ig;have QZ:Heap.IsTuple (Shared.heap ⟨hp.push {cls:=.type "tuple_iterator",data:=.fields #[.ref l1,.int 0 0]},g,d,tk,os⟩) l2 ys:=let⟨ob,eo,r⟩:=il;⟨ob,AG _ eo,r⟩
  wp_walk using wpAny_pyIter_tuple QY,wpAny_pyIter_tuple QZ
  exact⟨_,rfl,h⟩
theorem b8e{xs ys:ab_}{Q:p_}(ig:he_)(il:hf!)
  (kk:∀h',IsZip h' (q!+4) (q!+2) (q!+3) .none->IsPair h' (q!+2) c1_ (.ref ad!)->
   IsPair h' (q!+3) .none .none->h'.IsTupleIter s.heap.objs.size l1 0->h'.IsTupleIter ad! l2 0->(∀c ob,s.heap.get? c=some ob->h'.get? c=some ob)->Q (.ref (q!+4)) {s with heap:=h'}):
  wpAny n_ A (call oz! [.ref l1,.ref l2]) Q E s:=by
 refine callType_new F.called_zip c! (F.typeCall_zip_2 _ _) (F.newCall_zip_2 _ _) (λobj=>F.args_object_init_3 obj _ _) F.entry_zip_new (a3r l1 l2 xs ys) ⟨ig,il,?_⟩;have z1:(xf_).objs.size=q!+1:=GF ..;have z2:(xg!).objs.size=q!+2:=by rw[GF,z1]
 have z3:(xg_).objs.size=q!+3:=by rw[GF,z2]
 have z4:(oy_).objs.size=q!+4:=by rw[GF,z3]
 have y5:(hg_).get? (oy_).objs.size=some _:=BD _ rfl;have y4:(hg_).get? (xg_).objs.size=some _:=AG _ ou_;have y3:(hg_).get? (xg!).objs.size=some _:=AG _ oA!;have y2:(hg_).get? (xf_).objs.size=some _:=AG _ (AG _ oA!);have y1:(hg_).get? q!=some _:=AG _ (AG _ (AG _ oA!));show _/\_;rw[z2,z3,z4]at y5;rw[z1,z2]at y3;rw[z3]at y4;rw[z1]at y2;rw[z4];exact⟨⟨_,y5,rfl⟩,kk _ y5 y3 y4 ⟨_,y1,rfl,rfl⟩ ⟨_,y2,rfl,rfl⟩ λc ob x=>AG _ (AG _ (AG _ (AG _ (AG _ x))))⟩
end
noncomputable def Itz(K:W.Frag)(a b:Addr):It:=
 ⟨λi H=>∃xs ys x y,Lp K H a xs/\Lp K H b ys/\xs[i]?=some x/\ys[i]?=some y,
   λi H v H'=>∃T,v=.ref T/\H T=none/\∀xs ys,Lp K H a xs->Lp K H b ys->∃x y,xs[i]?=some x/\ys[i]?=some y/\H'=upd H T (.tup [x,y]),
   λi H=>∃xs ys,Lp K H a xs/\Lp K H b ys/\(k_<=i\/Z!<=i)⟩
theorem a8p{w:World}{K:W.Frag}{jh:bH_}{n1:Nat}{tp:Pos}{a b TI TO:Addr}(D:ZipApart z TI TO i1 i2 a b):
  wH P w K fl_ (Itz K a b) [z,TI,TO,i1,i2] z (λi h=>IsZip h z TI TO .none/\IsPair h TI pR! ot!/\(∃p q,IsPair h TO p q)/\h.IsTupleIter i1 a i/\h.IsTupleIter i2 b i) where
 mem:=by simp
 obj:=λi h st c hc=>by
  obtain⟨s1,s2,⟨p,q,s3⟩,⟨o4,s4,c4,d4⟩,⟨o5,s5,c5,d5⟩⟩:=st;simp only[AD,BQ,DK]at hc;rcases hc with rfl|rfl|rfl|rfl|rfl
  .exact⟨_,s1,oA_⟩
  .exact⟨_,s2,oA_⟩
  .exact⟨_,s3,oA_⟩
  .exact⟨o4,s4,λv y=>by rw[d4]at y;cases y⟩
  .exact⟨o5,s5,λv y=>by rw[d5]at y;cases y⟩
 keep:=λi h h' st k=>by
  obtain⟨s1,s2,⟨p,q,s3⟩,⟨o4,s4,r4⟩,⟨o5,s5,r5⟩⟩:=st;exact⟨k z d_ _ s1,k TI d_ _ s2,⟨p,q,k TO d_ _ s3⟩,⟨o4,k i1 d_ _ s4,r4⟩,⟨o5,k i2 d_ _ s5,r5⟩⟩
 item:=by
  intro X hP hw hK hc i O s Z H E I hf st hg;subst hP hw hK;obtain⟨xs,ys,x,y,qa,qb,L,hy⟩:=hg;obtain⟨s1,s2,⟨p,q,s3⟩,s4,s5⟩:=st;obtain⟨ia,ra,ta,za⟩:=I.tuple qa;obtain⟨ib,rb,tb,zb⟩:=I.tuple qb;obtain⟨u,hu,ru⟩:=ra.get L;obtain⟨v,hv,rv⟩:=rb.get hy;refine a2x D s1 s2 s3 s4 s5 ta tb (x:=u) (y:=v) rI_ iW! λh' a1 a2 a3 a4 a5 a6=>?_;refine⟨_,rfl,wpAny_letOwnedTupleGo_zip (s:=l6_) a1 λY b1 bm=>?_⟩;have pe:Heap.SameBut z h' Y:=bm;have neT:∀c o,s.heap.get? c=some o->q!≠c:=λc o e=>GL cS!;have fz:=hf z d_;have fO:=hf TO d_;have f1:=hf i1 d_;have f2:=hf i2 d_;have I1:Inv X O Z H {s with heap:=Y,toks:=s.toks}:=by
   have on:∀(c:Addr),c∈fm!->H c=none:=λc hc=>by
    simp only[AD,BQ,DK]at hc;rcases hc with rfl|rfl|rfl|rfl
    .exact fz.1
    .exact fO.1
    .exact f1.1
    .exact f2.1
   have kp:∀c o,c∉fm!->s.heap.get? c=some o->Y.get? c=some o:=λc o hc e=>by
    simp only[AD,BQ,DK,GN]at hc;exact pe.extBut _ _ hc.1 (a6 c o hc.1 hc.2.1 hc.2.2.1 hc.2.2.2 e)
   refine I.step (g':=s.gens) (d':=s.drawn) (ch:=fm!) hh! oB! oB_ h5! oC! h5_ h6! oC_ h6_ hh_ I.bare
   .simp only[AD,BQ,DK]at hc;rcases hc with rfl|rfl|rfl|rfl
    .exact xi!
    .exact xi_
    .exact xj!
    .exact xj_
   .show"!b"
   .refine(oD!).stay oD_ oE! λ_ _ e'=>e';have hn:=on d hm;rcases hd with rfl|hd
    .rw[hn]at e;cases e
    .rw[hn]at hd;cases hd
  have rm:H q!=none:=I.hok.fresh x_;have eT:Y.get? q!=some {cls:=.type "tuple",data:=.seq #[u,v]}:=pe.extBut _ _ (neT z _ s1) a5;have I2:Inv X O Z (upd H s.heap.objs.size (.tup [x,y])) {s with heap:=Y,toks:=s.toks}:=by
   have ne:∀c o,H c=some o->c≠q!:=λc o e=>Ej e rm;have RA:∀p∈X.pn++O,p.1≠q!:=λp hp=>BV wD!;refine Inv.step (s:={s with heap:=Y,toks:=s.toks}) (g':=s.gens) (d':=s.drawn) (t':=s.toks) (h':=Y) (ch:=[q!]) I1 hh! xl! xl_ xm! xm_
    (xn!) xn_ xo_ nq_ hh_ I1.bare
   .have e:c=q!:=by simpa using hc
    subst e;exact⟨.inr I.sz,GL I.lt,λx c h=>(λz=>by obtain⟨v,o,ho,_⟩:=I.cell x c h;rw[z]at ho;exact absurd h1! dz_),RA⟩
   .rw[nr!];exact n
   .by_cases J:c=q!
    .show"!x";exact⟨by show 2<=sizeLine;rw[CI];decide,[u,v],.cons ru (.cons rv .nil),⟨_,eT,rfl,_,rfl⟩⟩
    .rw[Bt J]at e;exact(xp!).stay nr_ xp_ λd xs q=>by rw[oG!];exact q
  refine⟨c6!,_,I2,rfl,⟨_,rfl,rm,λgb QQ j2 rq=>⟨x,y,?_,?_,rfl⟩⟩,⟨b1,pe.extBut _ _ D.TIz (a6 TI _ D.TIz D.TITO D.TIi1 D.TIi2 s2),⟨u,v,pe.extBut _ _ D.TOz a2⟩,Dv a3 pe.extBut D.i1z,Dv a4 pe.extBut D.i2z⟩,ke_⟩
  .rw[I.tuple_inj j2 qa];exact L
  .rw[I.tuple_inj rq qb];exact hy
  .have RB:=(hf c hc).1;have bp:∃o,s.heap.get? c=some o:=by
    obtain⟨o4,t4,_⟩:=s4;obtain⟨o5,t5,_⟩:=s5;simp only[AD,BQ,DK]at hc;rcases hc with rfl|rfl|rfl|rfl|rfl
    .exact⟨_,s1⟩
    .exact⟨_,s2⟩
    .exact⟨_,s3⟩
    .exact⟨_,t4⟩
    .exact⟨_,t5⟩
   obtain⟨o,ho⟩:=bp;rw[Bt (AI (neT c o ho))];exact RB
 done:=by
  intro X hP hw hK hc i O s Z H E I hf st hg;subst hP hw hK;obtain⟨xs,ys,qa,qb,RC⟩:=hg;obtain⟨s1,s2,⟨p,q,s3⟩,s4,s5⟩:=st;obtain⟨ia,ra,ta,za⟩:=I.tuple qa;obtain⟨ib,rb,tb,zb⟩:=I.tuple qb;have l1:=ra.length;have l2:=rb.length;refine oP bJ_ D s1 s2 s3 s4 s5 ta tb (by
   rcases RC with h|h
   .left;simp;omega
   .right;simp;omega) λY a6=>j_
  have fz:=hf z d_;have fO:=hf TO d_;have f1:=hf i1 d_;have f2:=hf i2 d_;have on:∀(c:Addr),c∈fm!->H c=none:=λc hc=>by
   simp only[AD,BQ,DK]at hc;rcases hc with rfl|rfl|rfl|rfl
   .exact fz.1
   .exact fO.1
   .exact f1.1
   .exact f2.1
  have kp:∀c o,c∉fm!->s.heap.get? c=some o->Y.get? c=some o:=λc o hc e=>by
   simp only[AD,BQ,DK,GN]at hc;exact a6 c o hc.1 hc.2.1 hc.2.2.1 hc.2.2.2 e
  refine I.step (g':=s.gens) (d':=s.drawn) (t':=s.toks) (ch:=fm!) hh! oB! oB_ h5! oC! h5_ h6! oC_ h6_ hh_ I.bare
  .simp only[AD,BQ,DK]at hc;rcases hc with rfl|rfl|rfl|rfl
   .exact xi!
   .exact xi_
   .exact xj!
   .exact xj_
  .show"!b"
  .refine(oD!).stay oD_ oE! λ_ _ e'=>e';have hn:=on d hm;rcases hd with rfl|hd
   .rw[hn]at e;cases e
   .rw[hn]at hd;cases hd
 self:=λA i s Q E st h=>wpAny_pyIter_zip st.1 h
section
variable{X:Cx}{own:List Nat}{e a b c o i tg:Expr}{es jh:List Expr}{pos p2 p tp:Pos}{f fa fb fc fe:Ag->Option D}{n1:Nat}
theorem c0q{ta:TA}(hg:Gl X "zip")(hm:xr!)(hv:xr_)(ha:PA X ai! ta)(hs:xs!:=by rfl)(ax:xs_:=by rfl):
  PI X fl_ xt! (λZ H R=>ta Z H λvs H1=>∃x y xs ys,vs=[.ref x,.ref y]/\Lp X.K H1 x xs/\Lp X.K H1 y ys/\R (Itz X.K x y) H1):=by
 intro O s Z H R I h;refine Call_ (Wm I hg hm hv (EC ma_ hs ax));obtain⟨x,y,xs,ys,rfl,qx,qy,q⟩:=q1;obtain⟨u,u',rfl,ru,ap⟩:=a5h r1;cases ru;cases ap;obtain⟨ia,ra,LQ,za⟩:=I1.tuple qx;obtain⟨ib,rb,LS,zb⟩:=I1.tuple qy;have lx:x<D!:=by obtain⟨ob,eo,_⟩:=LQ;exact BF eo
 have ly:y<D!:=by obtain⟨ob,eo,_⟩:=LS;exact BF eo
 refine b8e LQ LS λh' a1 a2 a3 a4 a5 a6=>?_;refine wpAny_pyIter_zip a1 ?_;have I2:Inv X O Z H1 {s1 with heap:=h',toks:=s1.toks}:=I1.kept (t':=s1.toks) a6;have D:ZipApart (D!+4) (D!+2) (D!+3) s1.heap.objs.size (D!+1) x y:=by
  constructor<;>(intro z;have z':@Eq Nat _ _:=z;have l1:@LT.lt Nat _ x _:=lx;have l2:@LT.lt Nat _ y _:=ly;omega)
 refine⟨_,_,_,Itz X.K x y,H1,rfl,I2,a8p D,⟨a1,a2,⟨_,_,a3⟩,a4,a5⟩,ke_,q⟩;have ml:D!<=c:=by
  simp only[AD,BQ,DK]at hc;rcases hc with rfl|rfl|rfl|rfl|rfl<;>omega
 exact I1.fpOk ml (I1.hok.fresh ml)
noncomputable def Us:List D->List D->List D
 |x::xs,y::ys=>.tup [x,y]::Us xs ys
 |_,_=>[]
noncomputable def c7i(fa fb:e!):Ag->Option aL_:=λρ=>(fb!).bind λx=>(jC_).bind λy=>match x,y with|.tup xs,.tup ys=>some kg!|_,_=>none
theorem wN:∀(xs ys:b!) (n:Nat) (d:D),kg![n]?=some d->∃x y,xs[n]?=some x/\ys[n]?=some y/\d=.tup [x,y]
 |[],_,n,d,h=>by simp[Us]at h
 |_::_,[],n,d,h=>by simp[Us]at h
 |x::xs,y::ys,0,d,h=>by
  simp[Us]at h;exact⟨x,y,rfl,rfl,h.symm⟩
 |x::xs,y::ys,n+1,d,h=>by
  obtain⟨u,v,B,Y,h3⟩:=wN xs ys n d (by simpa[Us]using h);exact⟨u,v,hS_,by simpa using Y,h3⟩
theorem wM:∀(xs ys:b!),k_<=(kg!).length\/Z!<=(kg!).length
 |[],ys=>.inl cj!
 |_::_,[]=>.inr cj!
 |x::xs,y::ys=>by
  rcases wM xs ys with h|h
  .left;simp[Us];exact h
  .right;simp[Us];exact h
theorem c1r{K:W.Frag}{G1:Hp}{es:b!}(qa:Lp K G1 x vs)(qb:Lp K G1 y ws)(ra:Bb K G1 ds vs)(rb:Bb K G1 es ws):ItD K (Itz K x y) (Us ds es) G1:=by
 intro n G' H' s1 s2;have j2:Lp K H' x vs:=Dj s2 (Dj s1 qa);have rq:Lp K H' y ws:=Dj s2 (Dj s1 qb);refine⟨ed!,λhn=>⟨vs,ws,j2,rq,?_⟩⟩
 .obtain⟨u,v,B,Y,rfl⟩:=wN ds es n d hd;obtain⟨v1,g1,r1⟩:=Qa ra B;obtain⟨v2,g2,r2⟩:=Qa rb Y;refine⟨⟨vs,ws,v1,v2,j2,rq,g1,g2⟩,λx' gq hy=>?_⟩;obtain⟨T,rfl,hT,hh⟩:=hy;obtain⟨x1,y1,e1,e2,rfl⟩:=hh vs ws j2 rq;rw[g1]at e1;rw[g2]at e2;cases e1;cases e2;exact⟨_,Ev.laid s2 hT,Ll (s2.free hT) (Bb.cons (r1.mono s1) (Bb.cons (r2.mono s1) Bb.nil))⟩
 .rw[hn,<-Ar ra,<-Ar rb];exact wM ds es
theorem c7w(hg:Gl X "zip")(hm:xr!)(hv:xr_)(ha:W_)(J:cD_)(hs:xs!:=by rfl)
  (bm:starEach [b] X.env=it_::starEach [] X.env:=by rfl)(ax:xs_:=by rfl):DI X own fl_ xt! (c7i fa fb):=
 a0m (c0q hg hm hv (Hq ha.ok (Hq J.ok Mx bm) hs) hs ax) λZ G H R ρ ds er e k=>by
  obtain⟨x,e1,e⟩:=AB.mp e;obtain⟨y,e2,e⟩:=AB.mp e;cases x with
  |tup xs=>
   cases y with
   |tup ys=>
    cases e;refine xw!;obtain⟨p,vs,rfl,q,rr⟩:=Da gY!;obtain⟨p',ws,rfl,q',bu⟩:=Da r2;exact⟨p,p',vs,ws,rfl,Dj s2.sub q,Dj s2.sub q',k _ G2 H2 df! (c1r q q' rr bu)⟩
   |_=>cases e
  |_=>cases e
end
noncomputable def Iu:D->D->Option D:=Hr yZ λi j=>.int (i*j)
theorem eP{K:W.Frag}:Po K mj! Iu:=c6p
noncomputable def Eg:D->D->Option D:=Hr nY_ λi j=>.int (i%j)
theorem Ki{K:W.Frag}:Po K ml! Eg:=c6q
noncomputable def Fa:D->D->Option D:=Hr vJ! λi j=>.int (i / j)
theorem Xw{K:W.Frag}:Po K mj_ Fa:=c1g
noncomputable def Ma:D->D->Option D:=Hr vJ_ λi j=>.int mm!
theorem c6m{K:W.Frag}:Po K ml_ Ma:=c6o
noncomputable def Sj:D->D->Option D:=Et λi j=>.bl mp!
theorem a6y{K:W.Frag}:Po K mo! Sj:=d1j
noncomputable def Wz:D->D->Option D:=Et λi j=>.bl mq_
theorem c4d{K:W.Frag}:Po K mq! Wz:=d1l
noncomputable def cL:D->D->Option D:=Et λi j=>.bl mr_
theorem d1i{K:W.Frag}:Po K mr! cL:=d1m
section
variable{X:Cx}{own:List Nat}{pos p2:Pos}
theorem Vx:Ml X mo_ xw_:=d1e.or a9s
noncomputable def Su:D->D->Option D
 |.int i,.int j=>some (.bl mp_)
 |.str x,.str y=>some (.bl (pS x y))
 |_,_=>none
theorem Vy{K:W.Frag}:Po K xw_ Su:=by
 show"!/";unfold Su at e;show"!7"
 .show"!Y";exact .inl oJ_
 .cases Du rx;cases Du ry;cases e;exact .inr oJ_
 .cases e
noncomputable def Wh:D->D->Option D
 |.int i,.int j=>some (.bl (!(i==j)))
 |.str x,.str y=>some (.bl (!(x==y)))
 |_,_=>none
theorem qO{K:W.Frag}:Po K rNe Wh:=by
 show"!/";unfold Wh at e;show"!7"
 .show"!Y";refine j_;rw[a7w];show"!q"
 .cases Du rx;cases Du ry;cases e;refine j_;rw[a7v];show"!q"
 .cases e
theorem c2p{n:Int}{j j':Nat}(hm:PySem.MulOk z n):DE X own (.BinOp (.Constant i3! j pa) .Mult (.Constant eN! j' pb) pos) (fC wt_):=
 Im (a6q c0y a3b b4p) λZ G H Q ρ d er e k=>by
  cases e;exact⟨z,n,rfl,rfl,hm,k _ G H fa_ Bn.str⟩
theorem Oo{x:Str}{i:Int}(hm:∃t,X.mg x=some dx_)(hg:R_)(hd:G!:=by decide):DE X own cY_ (fC bv_):=by obtain⟨t,ht⟩:=hm;exact c2r hg ht hd
end
theorem Dc{X:Cx}{scope sc:Scope}(h:X.env.scope=sc)(hd:∀y∈cb_,y.2=.free->(sc.names.lookup y.1=some .cell\/sc.names.lookup y.1=some .free)):
  ∀y∈cb_,y.2=.free->u2_:=λy hy hf=>by
 unfold Env.kindOf;rw[h];exact hd y hy hf
section
variable{X:Cx}{own:List Nat}{a b c:Expr}{pos p2:Pos}{fa fb fc:Ag->Option D}
theorem b7d{op dz:CmpOp}{r r':R2}{g g':aV_}(ho:b6_)(hg:eb_)(c9:iz!)(rg:Po X.K r' g')(ha:W_)(J:cD_)(hc:DE X own c fc)
  (hm:iz_:=by with_unfolding_all rfl):DT X own iA! (fT wp_):=
 nL (b3w ho c9 ha.ok J.ok hc.ok hm) λZ G H Q ρ d er e k=>by
  have e:=Tz e;obtain⟨x,e1,e⟩:=AB.mp e;obtain⟨y,e2,e⟩:=AB.mp e;obtain⟨z,e3,e⟩:=AB.mp e;refine wq_;have mi:=s1.trans gY_;cases z with
  |bl bb=>
   cases Fk r3;refine wr!;cases bb with
   |true=>
    obtain⟨u,e4,e⟩:=AB.mp e;refine Ww ⟨G3,ρ,u,er.grow mi,e4,λq G4 H4 s4 r4=>rg s4.sub wr_ r4 e λv G5 H5 s5 r5=>?_⟩;cases Fk r5;exact⟨d,rfl,k G5 H5 ws!⟩
   |false=>
    cases e;exact Wx ⟨false,rfl,k G3 H3 mi⟩
  |_=>cases e
theorem b0x{x:Str}{bj:aN!}(hd:a1k X x bj)(hg:R_)(ha:W_)(hm:behindInMarks .NotIn di!=false:=by rfl)(bc:G!:=by decide):DT X own (.Compare a [.NotIn] [cE!] pos) (fT (c2d bj true fa)):=by
 show"#F";refine nL (t:=λZ H Q=>tD X.K own fa Z H λv H1=>∃y,v=.str y/\Q (!(aV kvs ef_).isSome) H1) ww! λZ G H Q ρ d er e k=>?_
 .refine IP (Gq ww_ λv s1 ⟨y,H1,I1,r1,z,hz,q1⟩=>Tr I1 hg jx ?_ bc) hm;subst hz;refine wpAny_notIn_of (knd:=wx!) (k:=op!) wx_ LF (xz _ I1.kIn).mapOf ?_;rw[<-(ya.val oo_).isSome_eq];exact CA ⟨H1,I1.tok _,q1⟩
 .have e:=Tz e;obtain⟨x,e1,e⟩:=AB.mp e;cases x with
  |str y=>
   cases e;refine fe!;cases Du r1;refine⟨y,rfl,?_⟩;have J:(aV kvs ef_).isSome=(oo!).isSome:=by
    cases ht:bj.lookup y with
    |none=>rw[(hn y).mpr ht];rfl
    |some d=>obtain⟨v,hv,_⟩:=hs y d ht;rw[hv];rfl
   rw[J];exact k G1 H1 s1
  |_=>cases e
end
theorem Jd:bootBuiltins "len"=some su!:=by decide+kernel
theorem c8m:bootBuiltins "abs"=some sq_:=by decide+kernel
theorem c8k:bootBuiltins "ord"=some ss_:=by decide+kernel
theorem a4u:bootBuiltins "all"=some vQ!:=by decide+kernel
theorem Fy:bootBuiltins "isinstance"=some n2_:=by decide+kernel
theorem c8l:bootBuiltins "int"=some bB_:=by decide+kernel
theorem c3b:bootBuiltins "bool"=some bC!:=by decide+kernel
theorem a4t:bootBuiltins "str"=some a4!:=by decide+kernel
theorem dC:bootBuiltins "tuple"=some bC_:=by decide+kernel
theorem wB:bootBuiltins "list"=some a6_:=by decide+kernel
theorem c8j:bootBuiltins "zip"=some oz!:=by decide+kernel
noncomputable def Lj(K:W.Frag)(mg:A!)(x:Str)(st:Stmt)(ps:p!):Prop:=∃σ fd,Fun K x x st σ fd/\Jx K fd ps []/\mg x=some bS!
noncomputable def Eu(N:p!)(n:Nat)(q:aM_)(ds:b!):Option D:=if f_=n then(match q g9_ with|some (.rt d)=>some d|some (.nx _)=>some .non|none=>none)else none
theorem Je{K:W.Frag}{mg:A!}{st:Stmt}{ps:p!}{k:Nat}{h2:k!}{q:aM_}(h:xA_)(S:dZ!)
  (J:∀{σ:Addr} {af:Value} {A:Around} {outer:aq_} {s:Shared} {H:Hp} {E:XK},Ax k oN!->DSs (oN_).nox [] h2 bP_ q):
  Ok P w K mg base S! x ps (Eu N ps.length q):=by
 obtain⟨σ,fd,F,hb,m⟩:=h;refine⟨σ,fd,c7y F S (λaf A outer s H E hr=>J hr) (λds d hl e=>?_),hb,m,F.kp⟩;unfold Eu at e;rw[AN hl]at e;show"!7"
 .cases e;left;assumption
 .cases e;right;exact⟨_,by assumption,rfl⟩
 .cases e
mutual
noncomputable def a3x:Nat->Expr->Option D
 |0,_=>none
 |n+1,.Constant (.int i) _ _=>some bv_
 |n+1,.Constant (.str i) _ _=>some jw_
 |n+1,.Constant (.bool i) _ _=>some (.bl i)
 |n+1,.Constant .none _ _=>some .non
 |n+1,.UnaryOp .USub (.Constant (.int i) _ _) _=>some (.int (-i))
 |n+1,.BinOp (.Constant (.str z) _ _) .Mult (.Constant (.int i) _ _) _=>if 0<=i/\i<=100/\dV_<=100 then some (.str (Txt.mul z i))else none
 |n+1,.Tuple es _ _=>(oO_).bind λds=>if f_<=1000 then some dc_ else none
 |n+1,.List es _=>(oO_).bind λds=>if f_<=1000 then some cd_ else none
 |_,_=>none
noncomputable def a3w:Nat->List Expr->Option aL_
 |0,_=>none
 |n+1,[]=>some []
 |n+1,e::es=>(a3x n e).bind λd=>(oO_).bind λds=>some d7!
end
section
variable{X:Cx}{own:List Nat}
theorem b5v{n:Nat}(h:a3x n e=some d):starEach aI_ X.env=eQ!::starEach es X.env:=by
 cases n with
 |zero=>unfold a3x at h;cases h
 |succ n=>
  cases e<;>first|rfl|(simp[a3x]at h;done)
theorem yY{z:Str}{i:Int}(h:0<=i/\i<=100/\dV_<=100):PySem.MulOk z i:=by
 obtain⟨h0,B,Y⟩:=h;refine⟨?_,λh3 _=>?_,λ_ _=>?_⟩
 .simp only[Bool.or_eq_false_iff,DV];omega
 .have h4:(100:Int)<=nc! / i:=by
   rw[Int.le_ediv_iff_mul_le a!];omega
  omega
 .have h5:dV_*i.toNat<=100*100:=Nat.mul_le_mul Y a!;unfold PySem.Builtin.Str.tooLong;rw[CI];simp only[DV];omega
mutual
theorem Ng:∀{n:Nat} {e:Expr} {d:D},a3x n e=some d->DE X own e (fC d)
 |0,e,d,h=>by unfold a3x at h;cases h
 |n+1,e,d,h=>by
  unfold a3x at h;split at h
  .cases h
  .cases h;exact Ae
  .cases h;exact Bi
  .cases h;exact Kd
  .cases h;exact Gv
  .cases h;exact Im (b7o (own:=own) Ae).ok λZ G H Q ρ d er e k=>xD_
  .split at h
   .rename_i hm;cases h;exact c2p (yY hm)
   .cases h
  .obtain⟨ds,e1,e2⟩:=AB.mp h;split at e2
   .rename_i hl;cases e2;refine Im (Gk (a4n e1)).ok λZ G H Q ρ d er e k=>?_;show"#G"
   .cases e2
  .obtain⟨ds,e1,e2⟩:=AB.mp h;split at e2
   .rename_i hl;cases e2;refine Im (fL (a4n e1)).ok λZ G H Q ρ d er e k=>?_;show"#G"
   .cases e2
  .cases h
theorem a4n:∀{n:Nat} {es:bH_} {ds:b!},a3w n es=some ds->DA X own es (λ_=>some ds)
 |0,e,d,h=>by unfold a3w at h;cases h
 |n+1,[],d,h=>by
  unfold a3w at h;cases h;exact Aw
 |n+1,e::es,d,h=>by
  unfold a3w at h;obtain⟨d1,e1,h⟩:=AB.mp h;obtain⟨ds,e2,h⟩:=AB.mp h;cases h;exact b7r (Ai (Ng e1) (a4n e2) (b5v e1)).ok λZ G H Q ρ d er e k=>xD_
end
end
section
variable{P:Program}{w:World}{K:W.Frag}{mg:Str->Option Value}{h:Heap}
theorem Bm{st:Stmt}{ps:p!}{od an:a5!}{dt:b8!}{kV:Value}(X:fo_)(G:fp!)
  (a:xH_)(l:xI_)
  (c:xJ_)(k:gJ!)
  (b:xJ!):Lj K mg x st ps:=
 ⟨f,_,kh_,oP!,oP_⟩
noncomputable def c8x(K:W.Frag)(mg:A!)(x:Str)(st:Stmt)(ps:p!):Prop:=∃σ fd,Fun K x x st σ fd/\(∀us:List Value,ap_=S_->bindArgs fd c5!=pure c4!)/\mg x=some bS!
theorem c2m{st:Stmt}{ps:p!}{od an:a5!}{dt:b8!}{kV:Value}(X:fo_)(G:fp!)
  (a:xH_)(l:xI_)
  (c:xJ_)(k:gJ!)
  (b:xJ!):c8x K mg x st ps:=
 ⟨f,_,kh_,b _ _ _ _ _ _,oP_⟩
theorem cK{i:Int}(X:fo_)(G:fp!)(a:W.nsIn K mainGlobals x=some (some (.int i tk))):∃tk,mg x=some (.int i tk):=⟨tk,oP_⟩
theorem Ka(X:fo_)(G:fp!)(e:W.nsIn K mainGlobals x=some (some ac!)):mg x=some ac!:=W.mg_of X G e
theorem Hs(X:fo_)(G:fp!)(e:W.nsIn K mainGlobals x=some none):mg x=none:=W.mg_none_of X G e
theorem rD{K:W.Frag}{H:Hp}:∀(ns:A_),Bb K H oQ! b9!
 |[]=>Bb.nil
 |n::r=>Bb.cons Bn.int (rD r)
abbrev a1d:=Str×Tok×Addr
noncomputable def c5m(w:World)(r:a1d):DictEntry:=⟨PyData.keyHash w.params r.1,.str r.1 r.2.1,.ref r.2.2⟩
noncomputable def a4x(K:W.Frag):List a1d->List ci!->Prop
 |[],[]=>True
 |r::rs,t::ts=>r.1=t.1/\(∀H,Bn K H t.2 (V.ref r.2.2))/\a4x K rs ts
 |_,_=>False
abbrev a5y(rows:fq!):List (L2.Key×V):=rows.map λr=>(Sum.inr r.1,V.ref r.2.2)
abbrev xM(rows:fq!):List wv!:=rows.map λr=>(Sum.inr r.1,Value.ref r.2.2)
theorem kU{P:Program}:∀(rows:fq!),Pairs br_ xL_ oR!
 |[]=>.nil
 |r::rs=>.cons (Wi P w r.1 r.2.1) rfl (kU rs)
theorem eA:∀{rows:fq!} {bj:aN!},a4x K rows bj->(aV oR_ ef_=none↔bj.lookup y=none)/\∀d,bj.lookup y=some d->∃v,aV oR_ ef_=some v/\∀H,Bn K H d v
 |[],[],_=>⟨⟨gt_,gt_⟩,λd e=>by cases e⟩
 |[],t::ts,h=>h.elim
 |r::rs,[],h=>h.elim
 |r::rs,(x,d0)::ts,h=>by
  obtain⟨B,Y,h3⟩:=h;have ih:=eA (y:=y) h3;have j3:r.1=x:=B;unfold aV at ih ⊢;simp only[AK,EF,BY];by_cases e:y=x
  .subst e;have:decide xM!=true:=by simp[j3]
   simp only[this,DR];refine⟨⟨xM_,xM_⟩,λd z=>?_⟩;cases z;exact⟨_,rfl,Y⟩
  .have e1:decide xM!=false:=by
    rw[j3];exact AU λz=>e (xN!).symm
   have e2:(y==x)=false:=by simp[e]
   simp only[e1,e2];exact ih
theorem a7k:∀(rows:fq!),KV oR_ oR!
 |[]=>.nil
 |r::rs=>.cons bK_ (a7k rs)
theorem b6u{X:Cx}{x:Str}{ad:Addr}{rows:fq!}{bj:aN!}{ep:Nat}(hw:X.w=w)(hK:X.K=K)(jx:X.mg=mg)(hm:mg x=some j2_)(hs:on_=false)(hl:K.lookup ad=some {cls:=.type "dict",data:=.dict (xL_).toArray ep})
  (nd:fq_)(ht:a4x K rows bj):a1k X x bj:=by
 subst hw hK jx;refine⟨ad,a5y rows,xM rows,hm,hs,λh hK=>⟨_,_,_,hK _ _ hl,xO!,rfl,?_,?_,?_⟩,a7k rows,λy=>(eA ht).1,λy d=>(eA ht).2 d⟩
 .intro e he;have cg:e∈rows.map (c5m X.w):=by simpa using he
  obtain⟨r,hr,rfl⟩:=AX.mp cg;exact⟨Sum.inr r.1,Wi _ _ r.1 r.2.1,rfl⟩
 .simpa using kU (w:=X.w) (P:=X.prog) rows
 .have e:(oR!).map a_=(ki!).map (Sum.inr:Str->L2.Key):=by simp[xM]
  rw[e];exact List.Pairwise.map _ (λa b kz z=>kz xN!) nd
theorem xR{H:Hp}:∀(fs:aq!),Bb K H (fs.map D.fn) xP_
 |[]=>Bb.nil
 |n::r=>Bb.cons (by unfold Bn;rfl) (xR r)
theorem pQ:∀(fs:aq!),Ci xP_ xQ!
 |[]=>.nil
 |n::r=>.cons rfl (pQ r)
theorem Ny{fs:aq!}{od:a5!}{n:Nat}{sl:b8!}(l:K.lookup a=some ⟨cH!,od,.seq (xQ!).toArray n,sl⟩)(hz:bs!<=1000)(H:Hp):Bn K H (.tup (fs.map D.fn)) e8_:=
 Bn.tup (.inr ⟨_,_,n,l,rfl,rfl,by simpa using Mf hz,by simpa using pQ fs⟩) (xR fs)
end
section
variable{X:Cx}{own bh:List Nat}{e a b c o:Expr}{es:List Expr}{pos p2:Pos}{f fa fb fc fe:Ag->Option D}{fs fi:Ag->Option (List D)}{ft fu:Ag->Option Bool}{st:Stmt}{q1:Ag->Option Fl}
theorem d2t:Ph X a4! xR_:=by
 intro O s Z H xs us Q I r h;rcases h with h|⟨z,rfl,q⟩
 .exact wA O s Z H xs us Q I r h
 .obtain⟨u,rfl,t,rfl⟩:=aU r;exact PySem.P.str_of_str ⟨.str z,H,I,K_,q⟩
noncomputable def d0c:List D->Option D
 |[.int i]=>if mw_<1920 then some mx! else none
 |[.str z]=>some i3!
 |_=>none
theorem d6c{K:W.Frag}:Zj K xR_ d0c:=by
 show"!@";unfold d0c at e;show"!7"
 .show"!4";cases By rv;show"!7"
  .show"!D";exact .inl ⟨_,rfl,hl,jH_⟩
  .cases e
 .show"!4";cases Du rv;cases e;exact .inr ⟨_,rfl,jH_⟩
 .cases e
end
abbrev MK:=Option (Sum L2.Key (List L2.Key))
abbrev d1r:Int:=0xFCA86420
section
variable{P:Program}{w:World}{A:Around}{E:Value->Shared->Prop}{s:Shared}
variable (P w)in
noncomputable def Tn(h:Heap):MK->Value->Prop
 |none,v=>v=.none
 |some (.inl k),v=>mU k v=true
 |some (.inr ks),v=>∃a,v=.ref a/\IsTupleKey br_ h ks a
variable (P w)in
noncomputable def mkHash:MK->Int
 |none=>d1r
 |some (.inl k)=>d1w w k
 |some (.inr ks)=>tupleKeyHash br_ ks
theorem zB(L:Tn P w h x v)(hy:Tn P w h y v):x=y:=by
 rcases x with _|x|x<;>rcases y with _|y|y
 .rfl
 .cases xS!;rcases Cu hy with⟨i,t,_,e⟩|⟨i,t,_,e⟩<;>exact nomatch e
 .cases xS!;obtain⟨a,e,_⟩:=hy;exact nomatch e
 .cases hn_;rcases Cu L with⟨i,t,_,e⟩|⟨i,t,_,e⟩<;>exact nomatch e
 .rw[(br_).inj v x y L hy]
 .obtain⟨a,rfl,_⟩:=hy;rcases Cu L with⟨i,t,_,e⟩|⟨i,t,_,e⟩<;>exact nomatch e
 .cases hn_;obtain⟨a,e,_⟩:=L;exact nomatch e
 .obtain⟨a,rfl,_⟩:=L;rcases Cu hy with⟨i,t,_,e⟩|⟨i,t,_,e⟩<;>exact nomatch e
 .obtain⟨a,rfl,L⟩:=L;obtain⟨b,e,hy⟩:=hy;cases e;rw[L.inj hy]
theorem Sy{h:Heap}{ks:oT_}(x:IsTupleKey br_ h ks a):∃its,h.IsTuple a its:=by obtain⟨o,its,n,B,Y,h3,_⟩:=x;exact⟨its,o,B,Y,n,h3⟩
theorem b5n{Q:ek!}(hu:ao!)(L:oU!)(hy:Tn P w s.heap y v)(h:Q (decide (x=y)) s):wpAny J! A (eqBool u v) Q E s:=by
 rcases x with _|x|x<;>rcases y with _|y|y
 .cases ho!;cases hn_;rw[fr_]at h;exact SeqAt.EqAt.same _ _ _ _ _ h
 .cases ho!;rw[fs!]at h;rcases Cu hy with⟨i,t,rfl,rfl⟩|⟨i,t,rfl,rfl⟩
  .exact SeqAt.EqAt.none_int i t _ _ _ _ h
  .exact SeqAt.EqAt.none_str i t _ _ _ _ h
 .cases ho!;rw[fs!]at h;obtain⟨a,rfl,q⟩:=hy;obtain⟨its,q⟩:=Sy q;exact SeqAt.EqAt.none_tuple q hu _ _ _ _ h
 .cases hn_;rw[fs!]at h;rcases Cu L with⟨i,t,rfl,rfl⟩|⟨i,t,rfl,rfl⟩
  .exact SeqAt.EqAt.int_none i t _ _ _ _ h
  .exact SeqAt.EqAt.str_none i t _ _ _ _ h
 .refine(br_).eqBool L hy ?_;by_cases e:x=y
  .subst e;rw[fr_]at h ⊢;exact h
  .rw[AU cQ!]at h;rw[AU e];exact h
 .rw[fs!]at h;obtain⟨a,rfl,q⟩:=hy;obtain⟨its,q⟩:=Sy q;rcases Cu L with⟨i,t,rfl,rfl⟩|⟨i,t,rfl,rfl⟩
  .exact SeqAt.EqAt.int_tuple i t q hu _ _ _ _ h
  .exact SeqAt.EqAt.str_tuple i t q hu _ _ _ _ h
 .cases hn_;rw[fs!]at h;show"#6";obtain⟨its,q⟩:=Sy q;exact SeqAt.EqAt.tuple_none q hu _ _ _ _ h
 .rw[fs!]at h;obtain⟨a,rfl,q⟩:=L;obtain⟨its,q⟩:=Sy q;rcases Cu hy with⟨i,t,rfl,rfl⟩|⟨i,t,rfl,rfl⟩
  .exact SeqAt.EqAt.tuple_int i t q hu _ _ _ _ h
  .exact SeqAt.EqAt.tuple_str i t q hu _ _ _ _ h
 .show"#6";obtain⟨b,rfl,q2⟩:=hy;refine wpAny_eqBool_tuple hu q q2 ?_;by_cases e:x=y
  .subst e;rw[fr_]at h ⊢;exact h
  .rw[AU cQ!]at h;rw[AU e];exact h
theorem zA{Q:ek!}(L:oU!)(h:Q true s):wpAny J! A (eqIsQuiet 8 u) Q E s:=by
 rcases x with _|x|x
 .cases ho!;rw[eqIsQuiet_byValue _ rfl];exact AC h
 .rw[eqIsQuiet_byValue _ ((br_).byValue x u L)];exact AC h
 .show"#6";exact wpAny_eqIsQuiet_tuple q h
theorem jC{Q:Int->Shared->Prop}(hu:ao!)(L:oU!)(h:∀tk,Q (mkHash P w x) {s with toks:=tk}):wpAny J! A (pyHash u) Q E s:=by
 rcases x with _|x|x
 .cases ho!;unfold pyHash;have hv:[cP_].any Value.onHeap=false:=rfl;refine AA ?_;rw[cRoomFor,AH (by rw[hv];exact BC)];refine AC ?_;have hT:s.TypeIs .none "NoneType":=rfl;refine AA xT!;rw[AH (show¬(some (Value.builtin "NoneType.__hash__")==some Value.none)=true by rw[beq_builtin_none];exact BC)];refine AA xT!;show wpAny _ _ (callSpecialIfBoundUnlessNone? Value.none (Str.ofString "__hash__") _>>=_) _ _ _;refine AA (wpAny_callSpecialIfBoundUnlessNone?_slot hT FP (BX FP hT PySem.F.entry_NoneType_hash ?_ (PySem.F.args_NoneType_hash_1 _)));refine wpAny_ret_mkInt ?_;exact AC (h _)
 .exact(br_).pyHash L (h _)
 .show"#6";exact wpAny_pyHash_tuple hu q (h _)
end
noncomputable def Yn(ks:ba_)(k:MK):Option Nat:=ks.findIdx? λx=>decide (x=k)
noncomputable def Od(ks:ba_)(k:MK)(i:Nat):Bool:=decide (ks[i]?=some k)
theorem cF{ks:ba_}{j:Nat}(h:xU!):ks[j]?=some k/\∀i,i<j->ks[i]?≠some k:=by obtain⟨B,Y,h3⟩:=List.findIdx?_eq_some_iff_getElem.mp h;refine⟨by rw[BA B];exact congrArg some (DJ Y),λi hi e=>?_⟩;have:=h3 i hi;obtain⟨q1,q2⟩:=AZ.mp e;rw[q2]at this;simp at this
theorem zR{ks:ba_}(h:Yn ks k=none)(i:Nat):ks[i]?≠some k:=λe=>by
 have:=List.findIdx?_eq_none_iff.mp h k (GO e);simp at this
theorem a4h(ks:ba_)(k:MK):(List.range kk_).find? do_=Yn ks k:=by
 cases h:Yn ks k with
 |none=>
  rw[List.find?_eq_none];intro i hi z;exact zR h i (DJ z)
 |some j=>
  obtain⟨B,Y⟩:=cF h;rw[List.find?_range_eq_some];refine⟨by unfold Od;exact BJ B,FS.mpr (jT!).1,fu!⟩;unfold Od;rw[AU (Y i hi)];rfl
section
variable{P:Program}{w:World}{A:Around}{E:Value->Shared->Prop}{s:Shared}
variable (P w)in
structure dM(h:Heap)(es:bO_)(ks:ba_):Prop where
 len:es.size=kk_
 at_:∀(i:Nat) (e:DictEntry) (k:MK),es[i]?=some e->ks[i]?=some k->Tn P w h k e.key/\e.hash=mkHash P w k
 nd:hp!
theorem dM.get{es:bO_}{ks:ba_}(x:km!){i:Nat}{e:DictEntry}(q:es[i]?=some e):∃k,ks[i]?=some k/\Tn P w h k e.key/\e.hash=mkHash P w k:=by
 have hl:i<kk_:=by rw[<-x.len];exact(GV.mp q).1
 exact⟨ks[i],BA hl,x.at_ i e _ q (BA hl)⟩
theorem dM.one{es:bO_}{ks:ba_}(x:km!){i j:Nat}(B:Od ks k i=true)(Y:Od ks k j=true):i=j:=by have e1:=DJ B;have e2:=DJ Y;exact(List.getElem?_inj (AZ.mp e1).1 x.nd).mp qU!
abbrev plc(es:bO_)(h:Int):List Nat:=placesWithHash es.size (λi=>es[i]?.map (·.hash)) h
theorem a0i{es:bO_}{ks:ba_}(x:km!)(k:MK):(km_).find? do_=Yn ks k:=by
 unfold plc placesWithHash;rw[List.find?_filter,<-a4h,x.len];congr 1;funext i;cases hp:Od ks k i with
 |false=>simp
 |true=>
  have e1:=DJ hp;have hl:i<es.size:=by rw[x.len];exact(AZ.mp e1).1
  obtain⟨k',q1,q2,q3⟩:=x.get (BU hl);rw[e1]at q1;cases q1;simp[BU hl,q3]
theorem b4b{es:bO_}{h:Int}{i:Nat}(hi:i∈plc es h):i<es.size:=by have:=(DD.mp hi).1;simpa using this
theorem c5z{es:bO_}{h:Int}:(plc es h).Nodup:=List.nodup_range.sublist IL
theorem a1v{o:Obj}{es:bO_}{ep:Nat}{ks:ba_}{Q:xV_}(hu:ao!)(x:xW!)(hk:ek_)
  (ho:xW_)(hd:xX!)(h:Q hr! s):wpAny J! A xX_ Q E s:=by
 show"!k";generalize plc es dp!=av at hf hl ⊢;rw[<-hf]at h;unfold dictWalkPlain;refine AA (IF _ (λrest b s'=>s'=s/\b=el!/\rest.find? do_=av.find? do_/\∀i∈rest,i<es.size) _ ?_ ?_ _ _ ⟨rfl,rfl,rfl,hl⟩)
 .rintro i rest b s' ⟨rfl,rfl,B,Y⟩;have am:=Y i AM;have he:es[i]?=some es[i]:=BU am;obtain⟨k',q1,q2,q3⟩:=x.get he;have no:k'≠k->rest.find? do_=av.find? do_:=λb7=>by
   rw[<-B,EF];have:Od ks k i=false:=by unfold Od;rw[q1];exact AU xY_
   rw[this]
  show"#,";rw[he];show"#0";split
  .refine AA oZ_;rw[T!];by_cases lf:k'=k
   .subst lf;rw[fr_];have hi:Od ks k' i=true:=by unfold Od;exact BJ q1
    have:av.find? (Od ks k')=some i:=by rw[<-B,EF,hi]
    rw[this]at h;exact AA (DY (AC (AC h)))
   .rw[AU lf];exact AA (DY (AC ⟨rfl,rfl,no lf,rs⟩))
  .rename_i hh;exact AC ⟨rfl,rfl,no xZ_,rs⟩
 .rintro b s' ⟨rfl,rfl,B,_⟩;rw[<-B]at h;exact AC h
theorem wS{Q:ek!}(hk:ek_)(hl:∀v∈av,∃k',Tn P w s.heap k' v)(h:Q false s):wpAny J! A (tableMayTell u av) Q E s:=by
 unfold tableMayTell;split
 .exact AC h
 .refine AA (zA hk ?_);rw[T!];refine AA (IF _ (λrest r s'=>s'=s/\r=el!/\∀v∈rest,v∈av) _ ?_ ?_ _ _ ⟨rfl,rfl,λ_ z=>z⟩)
  .rintro v rest r s' ⟨rfl,rfl,hr⟩;obtain⟨k',q⟩:=hl v (hr v AM);refine AA (zA q ?_);rw[T!];exact AC ⟨rfl,rfl,λy hy=>hr y d2!⟩
  .rintro r s' ⟨rfl,rfl,_⟩;exact AC h
theorem b8y{ks:ba_}{i:Nat}(q1:x0!)(e:k'=k):Od ks k i=true:=by unfold Od;rw[<-e];exact BJ q1
theorem a8m{ks:ba_}{i:Nat}{rest:k!}{bd:o0!}(hc:(bd=none/\(i::rest).find? do_=Yn ks k)\/∃j,bd=some j/\Yn ks k=some j/\Od ks k j=true/\j∉i::rest)(q1:x0!)(b7:¬k'=k):
  x0_\/∃j,bd=some j/\Yn ks k=some j/\Od ks k j=true/\j∉rest:=by
 rcases hc with⟨e,B⟩|⟨j,e,B,h4,h5⟩
 .refine .inl e1!;rw[<-B,EF];have:Od ks k i=false:=by unfold Od;rw[q1];exact AU xY_
  rw[this]
 .exact .inr ⟨j,e,B,h4,λz=>h5 (AE _ z)⟩
theorem fE{v:Value}(q:Tn P w h k v):v.isStr z=decide (k=some hr_):=by
 by_cases e:k=some hr_
 .subst e;rw[fr_];rcases Cu q with⟨i,t,e,_⟩|⟨i,t,e,rfl⟩
  .cases e
  .cases e;simp[Value.isStr]
 .rw[AU e];cases v<;>first|rfl|skip
  rename_i y t;simp only[Value.isStr,EA,ne_eq];rintro rfl;exact e (zB q (fB y t))
theorem b6v{es:bO_}{ks:ba_}(x:km!)(z:Str):(es.findIdx? λe=>e.key.isStr z)=Yn ks (some hr_):=by
 cases hk:Yn ks (some hr_)with
 |none=>
  rw[Array.findIdx?_eq_none_iff];intro e he;obtain⟨i,hi⟩:=Array.mem_iff_getElem?.mp he;obtain⟨k',q1,q2,_⟩:=x.get hi;rw[fE q2];exact AU λ(e:k'=_)=>zR hk i x1!
 |some j=>
  obtain⟨B,Y⟩:=cF hk;have hj:j<es.size:=by rw[x.len];exact(jT!).1
  rw[Array.findIdx?_eq_some_iff_getElem];refine⟨hj,?_,fu!⟩
  .obtain⟨k',q1,q2,_⟩:=x.get (BU hj);rw[fE q2];rw[B]at q1;cases q1;exact BJ rfl
  .obtain⟨k',q1,q2,_⟩:=x.get (BU (Nat.lt_trans hi hj));rw[fE q2,AU (λ(e:k'=_)=>Y i hi x1!)];simp
theorem d0g{g:Prop}(h:∃T:Prop,(T->g)/\T):g:=let⟨_,f,k⟩:=h;f k
theorem cR{o:Obj}{es:bO_}{ep:Nat}{ks:ba_}{Q:xV_}(hu:ao!)(x:xW!)(hk:ek_)
  (ho:xW_)(hd:xX!)(h:Q hr! s):wpAny J! A (dictFind d u dp!) Q E s:=by
 have bx:∀v∈(km_).filterMap (λi=>es[i]?.map kn_),∃k',Tn P w s.heap k' v:=λv hv=>by
  obtain⟨i,_,e⟩:=FB.mp hv;obtain⟨e',e1,rfl⟩:=AL.mp e;obtain⟨k',_,q,_⟩:=x.get e1;exact⟨k',q⟩
 have RD:¬(es.any λe=>e.key==u&&e.hash != mkHash P w k)=true:=λz=>by
  obtain⟨i,hi,z⟩:=Array.any_eq_true.mp z;rw[BI,FJ,bne_iff_ne]at z;obtain⟨k',_,q,q3⟩:=x.get (BU hi);rw[z.1]at q;exact z.2 (by rw[q3,zB q hk])
 show"!k";have pf:(km_).Nodup:=c5z;have ax:wpAny J! A xX_ Q E s:=a1v hu x hk ho hd h;unfold dictFind;refine CC (AA (EJ ho hd ?_));refine d0g ?_;apply Exists.intro;apply And.intro
 .intro tl;have xp:(∃a,u=.ref a)\/(∃z t,u=.str z t/\k=some hr_)\/(u=.none\/∃i t,u=.int i t):=by
   clear tl;rcases k with _|k|k
   .exact .inr (.inr (.inl hk))
   .rcases Cu hk with⟨i,t,rfl,rfl⟩|⟨i,t,rfl,rfl⟩
    .exact .inr (.inr (.inr ⟨i,t,rfl⟩))
    .exact .inr (.inl ⟨i,t,rfl,rfl⟩)
   .obtain⟨a,rfl,_⟩:=hk;exact .inl ⟨a,rfl⟩
  rcases xp with⟨a,ea⟩|⟨z,t,ea,LU⟩|ea|⟨i,t,ea⟩
  all_goals rw[ea]
  all_goals dsimp only
  rotate_left
  refine wpAny_ite_split (λff=>?_) λ_=>?_
  .clear tl;unfold foundByValue;rw[b6v x z,<-LU];cases hj:Yn ks k with
   |none=>rw[hj]at h;exact AC h
   |some j=>
    obtain⟨B,_⟩:=cF hj;have am:j<es.size:=by rw[x.len];exact(jT!).1
    obtain⟨k',q1,q2,_⟩:=x.get (BU am);rw[B]at q1;cases q1;show"#0";rw[BU am,<-ea];refine AA oZ_;rw[T!,fr_];rw[hj]at h;exact AA (DY (AC h))
  all_goals rw[<-ea]
  all_goals refine wpAny_ite_split (λ_=>ax) λ_=>?_
  rotate_right
  rw[AH RD]
  all_goals refine wpAny_ite_split (λ_=>AA ad_) λ_=>AA (wS hk bx ?_)
  all_goals rw[T!]
  all_goals exact tl
 refine AA (IF _ (λrest b s'=>s'=s/\∃bd,b=(none,bd)/\(∀i∈rest,i<es.size)/\rest.Nodup/\
  (x0_\/∃j,bd=some j/\Yn ks k=some j/\Od ks k j=true/\j∉rest)) _ ?_ ?_ _ _ ⟨rfl,none,rfl,hl,pf,.inl ⟨rfl,hf⟩⟩)
 rotate_left
 .rintro b s' ⟨rfl,bd,rfl,_,_,hc⟩;rcases hc with⟨rfl,B⟩|⟨j,rfl,B,_⟩
  .rw[<-B]at h;exact AC h
  .rw[B]at h;exact AC h
 .rintro i rest b s' ⟨rfl,bd,rfl,Y,h3,hc⟩;have am:=Y i AM;have he:es[i]?=some es[i]:=BU am;obtain⟨k',q1,q2,q3⟩:=x.get he;obtain⟨n1,n2⟩:=AV.mp h3;show"#,";have stay:=λb7=>a8m hc q1 b7;rw[he];show"#0";split
  .refine AA oZ_;rw[T!];by_cases lf:k'=k
   rotate_left
   .rw[AU lf];simp only[BH,BW,Bool.false_and];exact AA (DY (AC ⟨rfl,bd,rfl,rs,n2,stay lf⟩))
   .have hi:=b8y q1 lf;rw[BJ lf];rcases hc with⟨rfl,B⟩|⟨j,e,B,h4,h5⟩
    .have hL:=B;rw[EF,hi]at hL;simp only[CF,Option.isSome_none,BH,BW];refine AA hf_;split
     .rw[<-hL]at h;exact AC (AC h)
     .exact AC ⟨rfl,H_,rfl,rs,n2,.inr ⟨i,rfl,hL.symm,hi,n1⟩⟩
    .exact absurd (x.one hi h4) λz=>h5 (z▸AM)
  .rename_i hh;exact AC ⟨rfl,bd,rfl,rs,n2,stay xZ_⟩
end
noncomputable def fV(h:Heap)(a:Addr)(es:aa_)(ep:Nat):Prop:=∃o,h.get? a=some o/\hU_/\o.data=.dict es.toArray ep
theorem fV.typeIs{s:Shared}{a:Addr}{es:aa_}{ep:Nat}(D:hs!):s.TypeIs ac! "dict":=let⟨o,ho,hc,_⟩:=D;⟨o,ho,hc.1⟩
noncomputable def c0g(es:aa_)(j:o0!)(h:Int)(u v:Value):List DictEntry:=match j with
 |some j=>es.modify j λe=>{e with val:=v}
 |none=>es++[⟨h,u,v⟩]
noncomputable def c0f(j:o0!)(ep:Nat):Nat:=match j with
 |some _=>ep
 |none=>ep+1
section
variable{P:Program}{w:World}{A:Around}{E:Value->Shared->Prop}{s:Shared}{a:Addr}{es:List DictEntry}{ep:Nat}{ks:List MK}{k:MK}{u v:Value}
theorem d2k{Q:fl!}(hu:ao!)(D:hs!)(x:ko!)(hk:ek_)(h:∀tk,Q ((hr!).bind λj=>es[j]?.map (·.val)) {s with toks:=tk}):
  wpAny J! A (dictGet a u) Q E s:=by
 obtain⟨o,ho,_,hd⟩:=D;unfold dictGet;refine CC o1!;have h:=h tk;cases hj:Yn ks k with
 |none=>rw[hj]at h;exact AC h
 |some j=>
  rw[hj]at h;refine AA (EJ (s:=el_) ho hd ad_);rw[EN];exact h
theorem jI{h:Heap}{f:Array DictEntry->Array DictEntry}{au:aa_}{o:Obj}(ho:h.get? a=some o)(hc:hU_)(hd:o.data=.dict es.toArray ep)(he:f es.toArray=au.toArray):
  fV (h.update a (Obj.mapDict f)) a au ep/\fV (h.update a (Obj.mapDictKeys f)) a au bb!:=
 ⟨⟨_,FU _ ho (Obj.isFreed_of_dict (Obj.data_mapDict hd _)),hc.mapDict _,by rw[Obj.data_mapDict hd,he]⟩,⟨_,FU _ ho (Obj.isFreed_of_dict (Obj.data_mapDictKeys hd _)),hc.mapDictKeys _,by rw[Obj.data_mapDictKeys hd,he]⟩⟩
theorem d2j{Q:cT!}(hu:ao!)(D:hs!)(x:ko!)(hk:ek_)(hl:o1_)
  (h:∀h' tk,fV h' a (c0g es hr! dp! u v) (c0f hr! ep)->Heap.SameBut a s.heap h'->Q () {s with heap:=h',toks:=tk}):wpAny J! A x2! Q E s:=by
 obtain⟨o,ho,hc,hd⟩:=D;unfold dictSet;refine CC (AA (jC hu hk λtk=>?_));unfold dictSetHashed;refine CC (AA x1_);cases hj:Yn ks k with
 |none=>
  rw[hj]at h;exact AA (DY (IY (s:=el_) ho hd (h _ tk (x2_).2 eg!) (hz:=ko_)))
 |some j=>
  rw[hj]at h;exact AA (DY (AA (wpAny_updateDict (s:=el_) ho hd (wpAny_point (h _ tk (x2_).1 eg!)))))
theorem cW{Q:p_}(hu:ao!)(D:hs!)(x:ko!)(hk:ek_)(hl:o1_)
  (B:∀j e tk,Yn ks k=some j->es[j]?=some e->Q e.val {s with toks:=tk})
  (Y:∀h' tk,Yn ks k=none->fV h' a (es++[⟨mkHash P w k,u,v⟩]) bb!->Heap.SameBut a s.heap h'->Q v {s with heap:=h',toks:=tk}):wpAny J! A (dictSetDefault a u v) Q E s:=by
 obtain⟨o,ho,hc,hd⟩:=D;unfold dictSetDefault;refine CC o1!;cases hj:Yn ks k with
 |none=>
  exact AA (DY (AA (IY (s:=el_) ho hd (AC (Y _ tk hj (jI ho hc hd d_).2 eg!)) (hz:=ko_))))
 |some j=>
  have am:j<ag!:=by
   have:=(AZ.mp (cF hj).1).1;rw[<-x.len]at this;simpa using this
  refine AA x4!;rw[EN,BA am];exact AA (DY (AC (B j _ tk hj (BA am))))
theorem c7p{j:Nat}{e:DictEntry}{Q:Option DictEntry->Shared->Prop}(hu:ao!)(D:hs!)(x:ko!)(hk:ek_)(hl:o1_)(hj:xU!)(he:es[j]?=some e)
  (h:∀h' tk,fV h' a x4_ bb!->Heap.SameBut a s.heap h'->Q ih! {s with heap:=h',toks:=tk}):wpAny J! A x5! Q E s:=by
 obtain⟨o,ho,hc,hd⟩:=D;unfold Builtin.Dict.takeOut;refine CC o1!;rw[hj];refine AA x4!;rw[EN,he];have am:j<ag!:=(AZ.mp he).1;refine AA (IY (s:=el_) ho hd (AC (h _ tk (jI ho hc hd ?_).2 eg!)) (hz:=ko_) (hf:=?_))
 .rw[Array.eraseIdxIfInBounds,dif_pos x5_];simp
 .rw[Array.eraseIdxIfInBounds];split
  .rw[Array.size_eraseIdx];omega
  .omega
end
noncomputable def Wt:List D->Option (List L2.Key)
 |[]=>some []
 |.int i::r=>(Wt r).map (Sum.inl i::·)
 |.str x::r=>(Wt r).map (Sum.inr x::·)
 |_::_=>none
noncomputable def Ge:D->Option MK
 |.non=>some none
 |.int i=>some (some (.inl (.inl i)))
 |.str x=>some (some (.inl (.inr x)))
 |.tup xs=>(Wt xs).map λks=>some (.inr ks)
 |_=>none
theorem rA:∀{xs ys:b!} {ks:oT_},Wt xs=some ks->Wt ys=some ks->xs=ys
 |[],ys,ks,h,h'=>by
  cases h;cases ys with
  |nil=>rfl
  |cons y r=>cases y<;>simp[Wt]at h'
 |x::xs,[],ks,h,h'=>by
  cases h';cases x<;>simp[Wt]at h
 |x::xs,y::ys,ks,h,h'=>by
  cases x<;>simp only[Wt]at h<;>first|(cases h;done)|skip
  all_goals (obtain⟨l,e1,rfl⟩:=AL.mp h)
  all_goals (cases y<;>simp only[Wt]at h'<;>first|(cases h';done)|skip)
  all_goals (obtain⟨l',e2,e3⟩:=AL.mp h')
  all_goals (injection e3 with e4 e5)
  all_goals first|(injection e4;done)|skip
  all_goals (injection e4 with e4;subst e4 e5;rw[rA e1 e2])
theorem a7c(h:aN_)(h':ck!):x=y:=by
 cases x<;>simp only[Ge]at h<;>first|(cases h;done)|skip
 all_goals (cases y<;>simp only[Ge]at h'<;>first|(cases h';done)|skip)
 all_goals first
  |rfl
  |(cases h;cases h';rfl)
  |(cases h;cases h')
  |(cases h;obtain⟨l,e1,e2⟩:=AL.mp h';cases e2)
  |(cases h';obtain⟨l,e1,e2⟩:=AL.mp h;cases e2)
  |(obtain⟨l,e1,e2⟩:=AL.mp h;obtain⟨l',e3,e4⟩:=AL.mp h';cases e2;cases e4;rw[rA e1 e3])
noncomputable def Fu(K:W.Frag)(G:Hp)(d:D)(u:Value):Prop:=∃v,Bn K G d v/\Ds v u
theorem Fu.mono{K:W.Frag}{G G':Hp}(e:kp!)(h:Fu K G d u):Fu K G' d u:=let⟨v,B,Y⟩:=h;⟨v,B.mono e,Y⟩
theorem xP{K:W.Frag}{G:Hp}:∀{ds:b!} {vs:l_} {ks:oT_},Bb K G ds vs->Wt ds=some ks->vs=ks.map kV
 |[],vs,ks,r,e=>by cases Fp r;cases e;rfl
 |d::ds,vs,ks,r,e=>by
  obtain⟨v,t,rfl,r1,r2⟩:=Dg r;cases d<;>simp only[Wt]at e<;>first|(cases e;done)|skip
  all_goals (obtain⟨l,e1,rfl⟩:=AL.mp e;rw[xP r2 e1])
  .cases By r1;rfl
  .cases Du r1;rfl
theorem eC{X:Cx}{O:n!}{Z:St}{G H:Hp}{s:Shared}(I:d!)(sub:M_)(r:bV!)(e:bo!):Tn X.prog X.w s.heap k u:=by
 obtain⟨v,r,ru⟩:=r;cases d<;>simp only[Ge]at e<;>first|(cases e;done)|skip
 .cases e;cases Iz r;exact ru
 .cases e;cases By r;obtain⟨t,rfl⟩:=ru;exact rB _ _
 .cases e;cases Du r;obtain⟨t,rfl⟩:=ru;exact fB _ _
 .obtain⟨ks,e1,rfl⟩:=AL.mp e;obtain⟨a,vs,rfl,q,rr⟩:=Da r;cases ru;show"#5";rw[xP rr e1]at rv;exact⟨a,rfl,o,aO!,n,B,Y,h3,by simpa using fD rv⟩
open Classical in
noncomputable def kget:List ay!->D->Option D
 |[],_=>none
 |(k,v)::r,d=>if k=d then some v else kget r d
open Classical in
noncomputable def Bk:List ay!->D->D->List ay!
 |[],d,v=>[(d,v)]
 |(k,x)::r,d,v=>if k=d then(k,v)::r else(k,x)::Bk r d v
open Classical in
noncomputable def Mn:List ay!->D->List ay!
 |[],_=>[]
 |(k,x)::r,d=>if k=d then r else(k,x)::Mn r d
section
variable{P:Program}{w:World}{K:W.Frag}{G G':Hp}
variable (P w K G)in
noncomputable def d3a(p:D×D)(e:DictEntry):Prop:=Fu K G p.1 e.key/\Fu K G p.2 e.val/\∃k,Ge p.1=some k/\e.hash=mkHash P w k
variable (P w K G)in
noncomputable def Os(kvs:h_)(es:aa_):Prop:=Paired (d3a P w K G) kvs es/\(fu_).Nodup
theorem Os.mono{es:aa_}(e:kp!)(h:fv!):Os P w K G' kvs es:=
 ⟨Paired.mapP h.1 λp q z=>⟨z.1.mono e,z.2.1.mono e,z.2.2⟩,h.2⟩
noncomputable def Qi(kvs:h_):List MK:=kvs.map λp=>(Ge p.1).getD none
theorem Mw{α β:Type}{F:cR!}:∀{l:N_} {m:dz!} {i:Nat} {a:α},Paired F l m->l[i]?=some a->∃b,m[i]?=some b/\F a b
 |_,_,_,_,.nil,e=>by simp at e
 |_,_,0,_,.cons r _,e=>by simp at e;subst e;exact lj_
 |_,_,i+1,a,.cons _ t,e=>by
  obtain⟨b,B,Y⟩:=Mw (i:=i) (a:=a) t cQ!;exact⟨b,hS_,Y⟩
theorem Rj{α β:Type}{F:cR!}:∀{l l':N_} {m m':dz!},Paired F l m->Paired F l' m'->Paired F (l++l') (m++m')
 |_,_,_,_,.nil,h=>h
 |_,_,_,_,.cons r t,h=>.cons r (Rj t h)
theorem Zb{α β:Type}{F:cR!}{f:α->α}{g:β->β}:∀{l:N_} {m:dz!} (j:Nat),Paired F l m->(∀a b,l[j]?=some a->m[j]?=some b->F a b->F (f a) (g b))->Paired F (l.modify j f) (m.modify j g)
 |_,_,j,.nil,_=>by simpa using Paired.nil
 |_,_,0,.cons r t,h=>.cons (h _ _ rfl rfl r) t
 |_,_,j+1,.cons r t,h=>.cons r (Zb j t λa b e1 e2=>h a b (by simpa using e1) (by simpa using e2))
theorem bN{α β:Type}{F:cR!}:∀{l:N_} {m:dz!} (j:Nat),Paired F l m->Paired F (l.eraseIdx j) (m.eraseIdx j)
 |_,_,_,.nil=>.nil
 |_,_,0,.cons _ t=>t
 |_,_,j+1,.cons r t=>.cons r (bN j t)
theorem Os.ents{X:Cx}{O:n!}{Z:St}{H:Hp}{s:Shared}{es:aa_}(I:d!)(sub:M_)(h:Os X.prog X.w X.K G kvs es):dM X.prog X.w s.heap es.toArray fv_:=by
 obtain⟨B,Y⟩:=h;refine⟨by simp[Qi,FC B],λi e k he hk=>?_,?_⟩
 .rw[EN]at he;unfold Qi at hk;rw[BS]at hk;obtain⟨p,hp,rfl⟩:=AL.mp hk;obtain⟨e',cg,q1,_,k',q2,q3⟩:=Mw B hp;rw[he]at cg;cases cg;rw[q2];exact⟨eC I sub q1 q2,q3⟩
 .have j4:∀{l:h_} {m:aa_},Paired (d3a X.prog X.w X.K G) l m->(em_).Nodup->(Qi l).Nodup:=by
   intro l m hp
   induction hp with
   |nil=>intro _;exact FR
   |@cons p e l m q t ih=>
    intro nd;rw[AK,AV]at nd;show(_::Qi l).Nodup;rw[AV];refine⟨cH_,ih nd.2⟩;obtain⟨p',bq,e'⟩:=AX.mp z;obtain⟨_,_,k,hk,_⟩:=q;obtain⟨i,hi⟩:=FE.mp bq;obtain⟨_,_,_,_,k',cr,_⟩:=Mw t hi;dsimp only at e';rw[hk,cr]at e';have:k'=k:=e';subst this;exact nd.1 (AX.mpr ⟨p',bq,a7c cr hk⟩)
  exact j4 B Y
theorem Os.look{kvs:h_}{es:aa_}(h:fv!)(hd:bo!):
  (Yn fv_ k=none/\kget kvs d=none/\(∀v,Bk kvs d v=kvs++[(d,v)])/\d∉kvs.map a_)\/∃j x e,Yn fv_ k=some j/\kvs[j]?=some dp_/\es[j]?=some e/\kget kvs d=some x/\Fu K G x e.val/\(∀v,Bk kvs d v=kvs.modify j λp=>(p.1,v))/\Mn kvs d=kvs.eraseIdx j:=by
 obtain⟨B,Y⟩:=h
 induction B with
 |nil=>exact .inl ⟨rfl,rfl,gt_,I!⟩
 |@cons p e l m q t ih=>
  obtain⟨y,z⟩:=p;rw[AK,AV]at Y;obtain⟨_,q2,k',q3,_⟩:=q;have q3:Ge y=some k':=q3;have mv:Qi ((y,z)::l)=k'::Qi l:=by unfold Qi;rw[AK,q3];rfl
  by_cases hy:y=d
  .subst hy;rw[hd]at q3;cases q3;refine .inr ⟨0,z,e,?_,rfl,rfl,by simp[kget],q2,λv=>by simp[Bk,List.modify],by simp[Mn]⟩;rw[mv];unfold Yn;rw[List.findIdx?_cons];simp
  .have b7:k'≠k:=λe=>hy (a7c q3 (e▸hd));have cr:Yn (Qi ((y,z)::l)) k=(Yn (Qi l) k).map (·+1):=by
    rw[mv];unfold Yn;rw[List.findIdx?_cons];simp[b7]
   rcases ih Y.2 with⟨i1,i2,i3,i4⟩|⟨j,x,e',i1,i2,i3,i4,i5,i6,i7⟩
   .refine .inl ⟨ya_,by simp[kget,hy,i2],λv=>by simp[Bk,hy,i3 v],?_⟩;rw[AK,AD,GN];exact⟨λe=>hy e.symm,i4⟩
   .exact .inr ⟨j+1,x,e',ya_,by simpa using i2,by simpa using i3,by simp[kget,hy,i4],i5,λv=>by simp[Bk,hy,i6 v],by simp[Mn,hy,i7]⟩
theorem Os.put{es:aa_}(h:fv!)(hd:bo!)(ru:Fu K G d u)(rv:Fu K G x v):Os P w K G o5! (c0g es (Yn fv_ k) dp! u v):=by
 rcases h.look hd with⟨i1,i2,i3,i4⟩|⟨j,y,e',i1,i2,i3,i4,i5,i6,i7⟩
 .rw[i1,i3];refine⟨Rj h.1 (.cons ⟨ru,rv,k,hd,rfl⟩ .nil),?_⟩;rw[BK,BO];refine⟨h.2,I!,λa ha b J e=>?_⟩;simp at J;subst J e;exact i4 ha
 .rw[i1,i6];refine⟨Zb j h.1 λa b _ _ q=>⟨q.1,rv,q.2.2⟩,?_⟩;have:∀(l:h_) (j:Nat),(l.modify j λp=>(p.1,x)).map a_=l.map a_:=by
   intro l
   induction l with
   |nil=>intro j;simp
   |cons p l ih=>
    intro j;cases j with
    |zero=>simp
    |succ j=>simp[ih j]
  rw[this];exact h.2
theorem Os.del{kvs:h_}{es:aa_}{j:Nat}(h:fv!):Os P w K G (kvs.eraseIdx j) x4_:=by refine⟨bN j h.1,?_⟩;exact h.2.sublist ((List.eraseIdx_sublist kvs j).map _)
end
inductive dN where
 |lst (xs:b!)|dct (kvs:h_) (ep:Nat)|obj (C:Addr) (fs:aN!)
abbrev Mh:=Addr->Option dN
noncomputable def Cg(M:Mh)(a:Addr)(c:dN):Mh:=λb=>if b=a then some c else M b
theorem mup_same{M:Mh}{a:Addr}{c:dN}:Cg M a c a=some c:=by unfold Cg;rw[j!]
theorem mup_ne{M:Mh}{a b:Addr}{c:dN}(h:b≠a):Cg M a c b=M b:=by unfold Cg;rw[AH h]
noncomputable def dE(a:Addr)(es:aa_)(ep:Nat):HO:=.ext λh=>fV h a es ep/\dy_=false/\ag!<=big
noncomputable def dL(K:W.Frag)(G:Hp):List ci!->List dy!->Prop:=Paired λp q=>p.1=q.1/\Bn K G p.2 q.2
section
variable(P:Program)(w:World)(K:W.Frag)
noncomputable def Nh(G H:Hp)(a:Addr):dN->Prop
 |.lst xs=>∃vs,H a=some dd!/\Bb K G xs vs
 |.dct kvs ep=>∃es,H a=some kr!/\Os P w K G kvs es
 |.obj C fs=>∃dx vs,H a=some yf!/\dL K G fs vs
structure MR(M:Mh)(G H:Hp):Prop where
 cell:∀a c,M a=some c->G a=none/\Nh P w K G H a c
end
structure XM(M:Mh)(G H:Hp)(M':Mh)(G' H':Hp):Prop where
 g:Cv G G'
 sub:Cv G' H'
 new:∀b,G' b≠none->G b≠none\/H b=none
 keep:∀b o,H b=some o->M b=none->H' b=some o
 dom:∀b,M' b≠none->M b≠none\/H b=none
 cells:∀b,M b≠none->M' b≠none
theorem XM.refl{M:Mh}{G H:Hp}(s:M_):XM M G H M G H:=⟨e9_,s,jx_,λ_ _ h _=>h,jx_,λ_ h=>h⟩
theorem XM.free{M M':Mh}{G H G' H':Hp}{b:Addr}(x:kr_)(hM:M b=none)(h:H' b=none):H b=none:=by
 cases e:H b with
 |none=>rfl
 |some o=>rw[x.keep b o e hM]at h;cases h
section
variable{P:Program}{w:World}{K:W.Frag}{M M1 M2:Mh}{G H G' H' G1 H1 G2 H2:Hp}
theorem dL.mono{fs:aN!}{vs:et_}(e:kp!)(h:dL K G fs vs):dL K G' fs vs:=Paired.mapP h λ_ _ z=>⟨z.1,z.2.mono e⟩
theorem Nh.mono{a:Addr}{c:dN}(e:kp!)(h:yg!)(hH:H' a=H a):Nh P w K G' H' a c:=by
 cases c with
 |lst xs=>obtain⟨vs,B,Y⟩:=h;exact⟨vs,o5_,Y.mono e⟩
 |dct kvs ep=>obtain⟨es,B,Y⟩:=h;exact⟨es,o5_,Y.mono e⟩
 |obj C fs=>obtain⟨dx,vs,B,Y⟩:=h;exact⟨dx,vs,o5_,Y.mono e⟩
theorem Nh.has{a:Addr}{c:dN}(h:yg!):H a≠none:=by
 cases c with
 |lst xs=>obtain⟨vs,B,Y⟩:=h;rw[B];simp
 |dct kvs ep=>obtain⟨es,B,Y⟩:=h;rw[B];simp
 |obj C fs=>obtain⟨dx,vs,B,Y⟩:=h;rw[B];simp
theorem MR.has(m:cl_){c:Addr}(h:M c≠none):H c≠none:=by
 cases e:M c with
 |none=>exact absurd e h
 |some q=>exact(m.cell c q e).2.has
theorem XM.trans(a:XM M G H M1 G1 H1)(b:XM M1 G1 H1 M2 G2 H2)(m:yh!):XM M G H M2 G2 H2 where
 g:=a.g.trans b.g
 sub:=b.sub
 new:=λc h=>by
  rcases b.new c h with z|z
  .exact a.new c z
  .cases hM:M c with
   |none=>exact .inr (a.free hM z)
   |some q=>exact absurd z (m.has (a.cells c yh_))
 keep:=λc o h hM=>by
  refine b.keep c o (a.keep c o h hM) ?_;cases e:M1 c with
  |none=>rfl
  |some q=>
   rcases a.dom c o7_ with z|z
   .exact absurd hM z
   .rw[h]at z;cases z
 dom:=λc h=>by
  rcases b.dom c h with z|z
  .exact a.dom c z
  .cases hM:M c with
   |none=>exact .inr (a.free hM z)
   |some q=>exact .inl d_
 cells:=λc h=>b.cells c (a.cells c h)
theorem XM.ext(x:jz_):XM M G H M G' H':=⟨x.g,x.sub,x.new,λb o h _=>x.h b o h,jx_,λ_ h=>h⟩
theorem MR.ext(m:cl_)(x:jz_):MR P w K M G' H':=⟨λa c e=>by
 obtain⟨B,Y⟩:=m.cell a c e;have hn:H a≠none:=Y.has;refine yi!
 .cases q:G' a with
  |none=>rfl
  |some o=>
   rcases x.new a ca! with z|z
   .exact absurd B z
   .exact absurd z hn
 .cases q:H a with
  |none=>exact absurd q hn
  |some o=>exact x.h a o q⟩
end
structure wJ(P:Program)(w:World)(K:W.Frag)(own:k!)(G H:Hp)(Z:St)(ρ:Ag)(M:Mh):Prop where
 or:OR K own G H Z ρ
 mr:MR P w K M G H
 dj:∀i∈own,∀p,Z[i]?=some ce_->M p=none
section
variable{P:Program}{w:World}{K:W.Frag}{own:List Nat}{M M' M1 M2:Mh}{G H G' H' G1 H1 G2 H2:Hp}{Z:St}{ρ:Ag}
theorem OR.growM(h:cf!)(x:kr_)(dj:∀i∈own,∀p,Z[i]?=some ce_->M p=none):OR K own G' H' Z ρ where
 sub:=x.sub
 len:=h.len
 at_:=λi d q n=>let⟨v,B,Y⟩:=h.at_ i d q n;vh_
 own_:=λi hi=>by
  obtain⟨p,ds,vs,B,Y,h3,h4,h5⟩:=h.own_ i hi;refine⟨p,ds,vs,B,Y,x.keep _ _ h3 (dj i hi p Y),?_,h5.mono x.g⟩;cases q:G' p with
  |none=>rfl
  |some o=>
   rcases x.new p ca! with z|z
   .exact absurd h4 z
   .rw[h3]at z;cases z
 dis:=h.dis
theorem wJ.grow(s:ht_)(x:kr_)(m:yi_):wJ P w K own G' H' Z ρ M':=
 ⟨s.or.growM x s.dj,m,λi hi p e=>by
  cases q:M' p with
  |none=>rfl
  |some c=>
   obtain⟨p',ds,vs,B,Y,h3,h4,h5⟩:=s.or.own_ i hi;rw[e]at Y;cases Y;rcases x.dom p ca! with z|z
   .exact absurd (s.dj i hi p e) z
   .rw[h3]at z;cases z⟩
end
abbrev WE:=Ag->Mh->yj!->Prop
abbrev WA:=Ag->Mh->yj_->Prop
abbrev WT:=Ag->Mh->(Bool->Mh->Prop)->Prop
section
variable(P:Program)(w:World)(K:W.Frag)(own:List Nat)
inductive tmE(f:WE)(Z:St)(H:Hp)(Q:VK):Prop
 |mk (G:Hp) (ρ:Ag) (M:Mh) (R:u_) (st:ht_) (e:hu!) (k:∀d M' v G' H',R d M'->XM M G H M' G' H'->MR P w K M' G' H'->Bn K G' d v->Q v H'):tmE f Z H Q
inductive tmA(f:WA)(Z:St)(H:Hp)(Q:cW!):Prop
 |mk (G:Hp) (ρ:Ag) (M:Mh) (R:pa_) (st:ht_) (e:hu!) (k:∀d M' v G' H',R d M'->XM M G H M' G' H'->MR P w K M' G' H'->Bb K G' d v->Q v H'):tmA f Z H Q
inductive tmT(f:WT)(Z:St)(H:Hp)(Q:dC_):Prop
 |mk (G:Hp) (ρ:Ag) (M:Mh) (R:fw_) (st:ht_) (e:hu!) (k:∀d M' G' H',R d M'->XM M G H M' G' H'->MR P w K M' G' H'->Q d H'):tmT f Z H Q
end
structure ME(X:Cx)(own:k!)(e:Expr)(f:WE):Prop where
 ok:PE X e (tmE X.prog X.w X.K own f)
structure MA(X:Cx)(own:k!)(es:bH_)(f:WA):Prop where
 ok:PA X es (tmA X.prog X.w X.K own f)
structure MT(X:Cx)(own:k!)(e:Expr)(f:WT):Prop where
 ok:PT X e yk!
structure MW(X:Cx)(own:k!)(e:Expr)(f:WT):Prop where
 ok:PW X e yk!
noncomputable def wl(f:e!):WE:=λρ M R=>match f ρ with|some d=>R d M|none=>False
noncomputable def Fj(f:aa!):WT:=λρ M R=>match f ρ with|some d=>R d M|none=>False
section
variable{X:Cx}{own:List Nat}{e a b c:Expr}{es rest:List Expr}{pos:Pos}{f fa fb fc:WE}{fs:WA}{ft fu:WT}{g:Ag->Option D}{gs:Ag->Option (List D)}{gt:Ag->Option Bool}
theorem Ju{t:TE}(h:ib_)(hw:∀Z G H Q ρ M R,wJ X.prog X.w X.K own G H Z ρ M->f ρ M R->(∀d M' v G' H',R d M'->XM M G H M' G' H'->MR X.prog X.w X.K M' G' H'->Bn X.K G' d v->Q v H')->t Z H Q):ME X own e f:=
 yk_
theorem c4j{t:TA}(h:gx!)(hw:∀Z G H Q ρ M R,wJ X.prog X.w X.K own G H Z ρ M->fs ρ M R->(∀d M' v G' H',R d M'->XM M G H M' G' H'->MR X.prog X.w X.K M' G' H'->Bb X.K G' d v->Q v H')->t Z H Q):MA X own es fs:=
 ⟨λp O s Z H Q I ⟨G,ρ,M,R,st,e,k⟩=>h p O s Z H Q I pb!⟩
theorem a7a{t:TT}(h:PT X e t)(hw:yl!):MT X own e ft:=
 yk_
theorem c4e{t:TT}(h:PW X e t)(hw:yl!):MW X own e ft:=
 ⟨λwh O s Z H Q I ⟨G,ρ,M,R,st,e,k⟩=>h wh O s Z H Q I pb!⟩
theorem b8u{ρ:Ag}{M:Mh}{R:u_}(h:wl g ρ M R):∃d,g ρ=some d/\R d M:=by
 unfold wl at h;split at h
 .exact yl_
 .exact h.elim
theorem b1r{ρ:Ag}{M:Mh}{R:fw_}(h:Fj gt ρ M R):∃d,gt ρ=some d/\R d M:=by
 unfold Fj at h;split at h
 .exact yl_
 .exact h.elim
theorem Af(h:DE X own e g):ME X own e (wl g):=Ju h.ok λZ G H Q ρ M R st e' k=>by
 obtain⟨d,e1,e2⟩:=b8u e';exact⟨G,ρ,d,st.or,e1,λv G' H' x r=>k d M v G' H' e2 (.ext x) pc! r⟩
theorem Jz(h:DT X own e gt):MT X own e (Fj gt):=a7a h.ok λZ G H Q ρ M R st e' k=>by
 obtain⟨d,e1,e2⟩:=b1r e';exact⟨G,ρ,d,st.or,e1,λG' H' x=>k d M G' H' e2 (.ext x) pc!⟩
noncomputable def Ak:WA:=λ_ M R=>R [] M
noncomputable def Ac(f:WE)(fs:WA):WA:=λρ M R=>f ρ M λd M1=>fs ρ M1 λds M2=>R d7! M2
theorem Az:MA X own [] Ak:=c4j Mx λZ G H Q ρ M R st e k=>k [] M [] G H e pc_ st.mr Bb.nil
theorem Aj(h:bW!)(hs:hv!)(bx:al_:=by rfl):MA X own aI_ (Ac f fs):=
 c4j vz_ λZ G H Q ρ M R st e' k=>⟨G,ρ,M,_,st,e',λd M1 v G1 H1 r1 x1 m1 q1=>⟨G1,ρ,M1,_,st.grow x1 m1,r1,λds M2 vs G2 H2 r2 x2 m2 q2=>
  k _ M2 _ G2 H2 r2 cI! m2 (Bb.cons cm! q2)⟩⟩
noncomputable def OpM(P:Program)(w:World)(K:W.Frag)(r:R2)(g:bp!):Prop:=∀{x y:V} {dx dy d:D} {M:Mh} {G H:Hp} {Q:VK},Cv G H->MR P w K M G H->Bn K G dx x->Bn K G dy y->g M dx dy=some d->jD!->r x y H Q
theorem Po.m{P:Program}{w:World}{K:W.Frag}{r:R2}{g:aV_}(h:Po K r g):OpM P w K r pd_:=λs _ rx ry e k=>h s rx ry e k
noncomputable def w2(g:bp!)(fa fb:WE):WE:=λρ M R=>fa ρ M λx M1=>fb ρ M1 λy M2=>match g M2 x y with|some d=>R d M2|none=>False
theorem b9a{r:R2}{gm:bp!}(hg:hv_){Z:St}{G H:Hp}{Q:VK}{ρ:Ag}{M:Mh}{R:u_}(st:ym_)(e:w2 gm fa fb ρ M R)
  (k:∀d M' v G' H',R d M'->XM M G H M' G' H'->MR X.prog X.w X.K M' G' H'->Bn X.K G' d v->Q v H'):tOp r (tmE X.prog X.w X.K own fa) (tmE X.prog X.w X.K own fb) Z H Q:=
 ⟨G,ρ,M,_,st,e,λx M1 u G1 H1 r1 x1 m1 q1=>⟨G1,ρ,M1,_,st.grow x1 m1,r1,λy M2 v G2 H2 r2 x2 m2 q2=>by
  have r2:(match gm M2 x y with|some d=>R d M2|none=>False):=r2;split at r2
  .rename_i d hd;exact hg x2.sub m2 cm! q2 hd λz G3 H3 x3 q3=>k d M2 z G3 H3 r2 ((cI!).trans (.ext x3) m2) (m2.ext x3) q3
  .exact r2.elim⟩⟩
theorem a7d{op:Operator}{r:R2}{gm:bp!}(ho:me!)(hg:hv_)(ha:ay_)(J:cI_):ME X own me_ ku_:=
 Ju vp_ λZ G H Q ρ M R st e k=>b9a hg st e k
theorem Tq{op:CmpOp}{r:R2}{gm:bp!}(ho:b6_)(hg:hv_)(ha:ay_)(J:cI_)(hm:dF!):ME X own dG! ku_:=
 Ju vq! λZ G H Q ρ M R st e k=>b9a hg st e k
theorem Do{r:R2}{gm:bp!}(hr:i0_)(hg:hv_)(ha:ay_)(J:cI_)(hs:jK b):ME X own m5_ ku_:=
 Ju vq_ λZ G H Q ρ M R st e k=>b9a hg st e k
noncomputable def wT(f:WE):WT:=λρ M R=>f ρ M λd M1=>match d with|.bl b=>R b M1|_=>False
theorem Hj{op:CmpOp}{r:R2}{gm:bp!}(ho:b6_)(hg:hv_)(ha:ay_)(J:cI_)(hm:dF!):MT X own dG! (wT ku_):=
 a7a vr! λZ G H Q ρ M R st e k=>b9a (own:=own) (Q:=vr_) hg st e λd M' v G' H' r' x' m' q'=>by
  cases d<;>first|exact r'.elim|skip
  cases Fk q';exact yn!
theorem Ky(h:bW!)(he:ic!:=by intro _;rfl):MT X own e (wT f):=
 a7a (b3t h.ok he) λZ G H Q ρ M R st e k=>⟨G,ρ,M,_,st,e,λd M' v G' H' r' x' m' q'=>by
  cases d<;>first|exact r'.elim|skip
  cases Fk q';exact yn!⟩
noncomputable def Mm(ft fu:WT):WT:=λρ M R=>ft ρ M λb M1=>if b then fu ρ M1 R else R false M1
noncomputable def wOr(ft fu:WT):WT:=λρ M R=>ft ρ M λb M1=>if b then R true M1 else fu ρ M1 R
noncomputable def Sw(ft:WT):WT:=λρ M R=>ft ρ M λb M1=>R (!b) M1
theorem Tl(h:hw!):MW X own lQ_ ft:=vs_
theorem a3p(h:hw!):MW X own lR! ft:=vt_
theorem aA(ha:hw!)(J:MW X own eA! fu):MW X own eA_ (Mm ft fu):=
 c4e vu! λZ G H Q ρ M R st e k=>⟨G,ρ,M,_,st,e,λx M1 G1 H1 r1 x1 m1=>by
  cases x with
  |true=>exact Ww yn_
  |false=>exact Wx yo!⟩
theorem b5h(ha:hw!)(J:MW X own eB! fu):MW X own eB_ (wOr ft fu):=
 c4e vv! λZ G H Q ρ M R st e k=>⟨G,ρ,M,_,st,e,λx M1 G1 H1 r1 x1 m1=>by
  cases x with
  |false=>exact Wx yn_
  |true=>exact Ww yo!⟩
theorem oU(h:MW X own e ft):MT X own e ft:=⟨h.ok.pt⟩
theorem aB(h:hw!):MT X own eC! (Sw ft):=
 a7a (b3v h.ok) λZ G H Q ρ M R st e k=>⟨G,ρ,M,_,st,e,λx M1 G1 H1 r1 x1 m1=>k _ M1 G1 H1 r1 x1 m1⟩
noncomputable def Yr(fa fb:WE):WE:=λρ M R=>wT fa ρ M λb M1=>if b then fb ρ M1 R else R Y_ M1
noncomputable def a8n(fa fb:WE):WE:=λρ M R=>wT fa ρ M λb M1=>if b then R C_ M1 else fb ρ M1 R
noncomputable def b1t(fa:WE):WE:=λρ M R=>wT fa ρ M λb M1=>R (.bl (!b)) M1
theorem lZ{op:BoolOp}(h:ay_):ME X own lR_ fa:=vv_
theorem uC(ha:ay_)(J:ME X own eA! fb):ME X own eA_ (Yr fa fb):=
 Ju vw! λZ G H Q ρ M R st e k=>⟨G,ρ,M,_,st,e,λd M1 v G1 H1 r1 x1 m1 q1=>by
  cases d<;>first|exact r1.elim|skip
  rename_i x;cases Fk q1;refine jE!;cases x with
  |true=>exact Ww kv_
  |false=>exact Wx yp_⟩
theorem c4h(ha:ay_)(J:ME X own eB! fb):ME X own eB_ (a8n fa fb):=
 Ju vy! λZ G H Q ρ M R st e k=>⟨G,ρ,M,_,st,e,λd M1 v G1 H1 r1 x1 m1 q1=>by
  cases d<;>first|exact r1.elim|skip
  rename_i x;cases Fk q1;refine jE!;cases x with
  |false=>exact Wx kv_
  |true=>exact Ww yp_⟩
theorem c6t(ha:ay_):ME X own eC! (b1t fa):=
 Ju (b4l ha.ok) λZ G H Q ρ M R st e k=>⟨G,ρ,M,_,st,e,λd M1 v G1 H1 r1 x1 m1 q1=>by
  cases d<;>first|exact r1.elim|skip
  cases Fk q1;exact⟨_,rfl,k _ M1 _ G1 H1 r1 x1 m1 Bn.bl⟩⟩
noncomputable def wIf(ft:WT)(fa fb:WE):WE:=λρ M R=>ft ρ M λb M1=>if b then fa ρ M1 R else fb ρ M1 R
theorem c4i(hc:pe_)(ha:ay_)(J:cI_):ME X own lS_ (wIf ft fa fb):=
 Ju vz! λZ G H Q ρ M R st e k=>⟨G,ρ,M,_,st,e,λx M1 G1 H1 r1 x1 m1=>by
  cases x with
  |true=>exact Ww kv_
  |false=>exact Wx kv_⟩
noncomputable def wO(fs:WA):WE:=λρ M R=>fs ρ M λds M1=>f_<=1000/\R dc_ M1
noncomputable def b1u(fs:WA):WE:=λρ M R=>fs ρ M λds M1=>f_<=1000/\R cd_ M1
theorem b5p{n:Nat}(h:hv!):ME X own (.Tuple es n pos) (wO fs):=
 Ju (b4i h.ok) λZ G H Q ρ M R st e k=>⟨G,ρ,M,_,st,e,λds M1 vs G1 H1 r1 x1 m1 q1=>⟨by rw[<-Ar q1];exact Mf r1.1,λp hp=>
  k _ M1 _ _ _ r1.2 yq! (m1.ext pf_) (Ll yq_ q1)⟩⟩
theorem c6u(h:hv!):ME X own iM_ (b1u fs):=
 Ju jF_ λZ G H Q ρ M R st e k=>⟨G,ρ,M,_,st,e,λds M1 vs G1 H1 r1 x1 m1 q1=>⟨by rw[<-Ar q1];exact Mf r1.1,λp hp=>
  k _ M1 _ _ _ r1.2 yq! (m1.ext pf_) (Fi yq_ q1)⟩⟩
end
section
variable{P:Program}{w:World}{K:W.Frag}{M:Mh}{G H:Hp}{p a:Addr}{o:HO}{c c0:dN}
theorem MR.nocell(m:cl_)(h:cC!):M p=none:=by
 cases e:M p with
 |none=>rfl
 |some q=>exact absurd h (m.has o7_)
theorem XM.laid(s:M_)(hp:cC!):XM M G H pg! G e9!:=by
 show"#2";refine⟨e9_,λb u e=>by rw[Bt (ne (s b u e))];exact s b u e,dk_,λb u e _=>by rw[Bt (ne e)];exact e,bl!,bl!⟩
 .by_cases J:b=p
  .subst J;exact .inr hp
  .rw[bp_]at h;exact .inl h
 .by_cases J:b=p
  .subst J;rw[mup_same];simp
  .rw[bp_];exact h
theorem MR.laid(m:cl_)(hp:cC!)(s:M_)(h:Nh P w K G e9! p c):MR P w K pg! G e9!:=⟨λb q e=>by
 by_cases J:b=p
 .show"#'";exact⟨s.free hp,h⟩
 .rw[bp_]at e;obtain⟨B,Y⟩:=m.cell b q e;exact yt!⟩
theorem XM.write(m:cl_)(s:M_)(ha:M a=some c0):XM M G H (Cg M a c) G cR_:=by
 have hG:=(m.cell a c0 ha).1;refine⟨e9_,λb u e=>by rw[Bt (Ej e hG)];exact s b u e,dk_,λb u e J=>?_,bl!,bl!⟩
 .have:b≠a:=λz=>by subst z;rw[ha]at J;cases J
  rw[Bt this];exact e
 .by_cases J:b=a
  .subst J;exact .inl (by rw[ha];simp)
  .rw[bp_]at h;exact .inl h
 .by_cases J:b=a
  .subst J;rw[mup_same];simp
  .rw[bp_];exact h
theorem MR.write(m:cl_)(ha:M a=some c0)(h:Nh P w K G cR_ a c):MR P w K (Cg M a c) G cR_:=⟨λb q e=>by
 by_cases J:b=a
 .show"#'";exact⟨(m.cell _ c0 ha).1,h⟩
 .rw[bp_]at e;obtain⟨B,Y⟩:=m.cell b q e;exact yt!⟩
end
open Classical in
noncomputable def Lq(kvs:h_)(d:D)(ep:Nat):Nat:=if(dq!).isSome then ep else ep+1
noncomputable def OkU(K:W.Frag)(G:Hp):Option D->Option Value->Prop
 |some d,some u=>Fu K G d u
 |none,none=>True
 |_,_=>False
section
variable{X:Cx}{O:List (Addr×Obj)}{Z:St}{G H:Hp}{s:Shared}{M:Mh}{a:Addr}{kvs:List (D×D)}{ep:Nat}{A:Around}{E:Value->Shared->Prop}{d x:D}{k:MK}{u v:Value}
theorem Jf(I:d!)(m:bW_)(sub:M_)(e:cm_):∃es,H a=some kr!/\Os X.prog X.w X.K G kvs es/\fV s.heap a es ep/\dy_=false/\ag!<=big/\dM X.prog X.w s.heap es.toArray fv_:=by obtain⟨es,B,Y⟩:=(m.cell a _ e).2;obtain⟨⟨h3,h4,h5⟩,_⟩:=(show Ke X.prog X.w H s.heap a kr! from I.hok a _ B);exact⟨es,B,Y,h3,h4,h5,Y.ents I sub⟩
theorem vU{t':Nat}{es au:aa_}{a9:Nat}(I:d!)(e:H a=some kr!)(D':fV h' a au a9)(hs:uA!)(hn:dy_=false)(hl:au.length<=big):Inv X O Z (upd H a (dE a au a9)) {s with heap:=h',toks:=t'}:=by refine c2u I sP! hs (let⟨o,h,_⟩:=D';ph!) ⟨⟨D',hn,hl⟩,let⟨o,h,_⟩:=D';ph!,yu_⟩;obtain⟨⟨o,z1,z2,z3⟩,z4⟩:=z;exact ph_
theorem vW{Q:fl!}(hu:ao!)(I:d!)(m:bW_)(sub:M_)(e:cm_)(r:bV!)(hk:bo!)
  (h:∀o s',Inv X O Z H s'->OkU X.K G dq! o->Q o s'):wpAny e_ A (dictGet a u) Q E s:=by
 obtain⟨es,B,Y,h3,h4,h5,h6⟩:=Jf I m sub e;refine d2k hu h3 h6 hy! λtk=>h _ _ mE! ?_;rcases Y.look hk with⟨i1,i2,i3,i4⟩|⟨j,y,e',i1,i2,i3,i4,i5,i6,i7⟩
 .rw[i1,i2];exact iJ_
 .rw[i1,i4];show OkU X.K G (some y) (es[j]?.map (·.val));rw[i3];exact i5
theorem kput_len:∀(l:h_) (d x:D),(Bk l d x).length<=ai_+1
 |[],_,_=>by simp[Bk]
 |(y,z)::l,d,x=>by
  unfold Bk;split
  .simp
  .have:=kput_len l d x;simp only[AR];omega
theorem b7s{Q:cT!}(hu:ao!)(I:d!)(m:bW_)(sub:M_)(e:cm_)(r:bV!)(hk:bo!)(rv:ky!)(hl:dr!)
  (h:yv_):wpAny e_ A x2! Q E s:=by
 obtain⟨es,B,Y,h3,h4,h5,h6⟩:=Jf I m sub e;have al:=FC Y.1;refine d2j hu h3 h6 hy! fz_ λh' tk D' hs=>?_;have mz:=Y.put (x:=x) hk r rv;have vm:c0f (Yn fv_ k) ep=Lq kvs d ep:=by
  unfold Lq;rcases Y.look hk with⟨i1,i2,i3,i4⟩|⟨j,y,e',i1,i2,i3,i4,i5,i6,i7⟩
  .rw[i1,i2];simp[c0f]
  .rw[i1,i4];simp[c0f]
 rw[vm]at D';have j5:=FC mz.1;have:=kput_len kvs d x;exact h _ _ (vU I B D' hs h4 a!) ⟨_,Dq,mz⟩
theorem a4p{Q:p_}(hu:eo!)(I:d!)(m:bW_)(sub:M_)(e:cm_)(r:bV!)(hk:bo!)(L:yw!)
  (h:∀o s',Inv X O Z H s'->Fu X.K G x o->Q o s'):wpAny e_ A (getItem ac! u) Q E s:=by
 obtain⟨es,B,Y,h3,h4,h5,h6⟩:=Jf I m sub e;have hT:=fA!;unfold getItem;refine CC (AA (wpAny_sequenceKey hT c! (AA (CM (name:=tQ!) hT PySem.slot_dict_getitem (BX PySem.slot_dict_getitem hT PySem.entry_dict_getitem ?_ (PySem.args_dict_getitem _ _))))));show wpAny e_ A.in1 kz! _ _ s;refine AA kz_;rw[L]at ho;cases o with
 |none=>exact ho.elim
 |some o=>exact AC ⟨o,rfl,AC (h o s' I' ho)⟩
theorem gZ{Q:ek!}(hu:eo!)(I:d!)(m:bW_)(sub:M_)(e:cm_)(r:bV!)(hk:bo!)
  (h:∀s',Inv X O Z H s'->Q (dq!).isSome s'):wpAny e_ A (contains ac! u) Q E s:=by
 obtain⟨es,B,Y,h3,h4,h5,h6⟩:=Jf I m sub e;have hT:=fA!;unfold contains;refine CC (AA (HE hT HF.lookup ?_));rw[AH (by rw[beq_builtin_none];exact BC)];refine AA (wpAny_callSpecialUnlessNone?_slot (name:=Str.ofString "__contains__") hT HF (BX HF hT PySem.entry_dict_contains ?_ (PySem.args_dict_contains _ _)));show wpAny e_ A.in1 kz! _ _ s;refine AA kz_;cases o with
 |none=>
  have hn:kget kvs d=none:=by
   cases q:kget kvs d with
   |none=>rfl
   |some y=>rw[q]at ho;exact ho.elim
  have h:=h s' I';rw[hn]at h;exact AA (wpAny_pendingKey_other h4 (AC yw_))
 |some o=>
  have hn:(dq!).isSome=true:=by
   cases q:kget kvs d with
   |none=>rw[q]at ho;exact ho.elim
   |some y=>rfl
  have h:=h s' I';rw[hn]at h;exact AC yw_
theorem a4o{Q:cT!}(hu:eo!)(I:d!)(m:bW_)(sub:M_)(e:cm_)(r:bV!)(hk:bo!)(rv:ky!)(hl:dr!)
  (h:yv_):wpAny e_ A (setItem ac! u v) Q E s:=by
 obtain⟨es,B,Y,h3,h4,h5,h6⟩:=Jf I m sub e;have hT:=fA!;unfold setItem;refine CC (AA (wpAny_sequenceKey hT c! (AA (CM (name:=Str.ofString "__setitem__") hT PySem.slot_dict_setitem (BX PySem.slot_dict_setitem hT PySem.entry_dict_setitem ?_ (PySem.args_dict_setitem _ _ _))))));refine AA (GQ hT ?_);show wpAny e_ A.in1 (dictSet a u v>>=_) _ _ s;exact AA (b7s (A:=A.in1) hu I m sub e r hk rv hl λau s' I' c'=>AC ⟨.none,rfl,AC (h au s' I' c')⟩)
theorem c2w{Q:p_}(hu:eo!)(I:d!)(m:bW_)(sub:M_)(e:cm_)(r:bV!)(hk:bo!)
  (h:∀o s',Inv X O Z H s'->Fu X.K G ((dq!).getD .non) o->Q o s'):wpAny e_ A (call yy! [dQ_,u]) Q E s:=by
 obtain⟨es,B,Y,h3,h4,h5,h6⟩:=Jf I m sub e;refine BX GK h3.typeIs PySem.F.entry_dict_get ?_ (PySem.F.args_dict_get_2 _ _);show wpAny e_ A.in1 kz! _ _ s;refine AA kz_;cases q:kget kvs d with
 |none=>
  rw[q]at ho;cases o with
  |none=>
   have h:=h .none s' I';rw[q]at h;exact AA (wpAny_missed_other h4 (AC ⟨.none,rfl,h ⟨V.non,Bn.non,rfl⟩⟩))
  |some o=>exact ho.elim
 |some y=>
  rw[q]at ho;cases o with
  |none=>exact ho.elim
  |some o=>
   have h:=h o s' I';rw[q]at h;exact AC yz!
theorem c2v{Q:p_}(hu:eo!)(I:d!)(m:bW_)(sub:M_)(e:cm_)(r:bV!)(hk:bo!)(rv:ky!)
  (h:∀o s',Inv X O Z H s'->Fu X.K G ((dq!).getD x) o->Q o s'):wpAny e_ A (call yy! [dQ_,u,v]) Q E s:=by
 obtain⟨es,B,Y,h3,h4,h5,h6⟩:=Jf I m sub e;refine BX GK h3.typeIs PySem.F.entry_dict_get ?_ (PySem.F.args_dict_get_3 _ _ _);show wpAny e_ A.in1 kz! _ _ s;refine AA kz_;cases q:kget kvs d with
 |none=>
  rw[q]at ho;cases o with
  |none=>
   have h:=h v s' I';rw[q]at h;exact AA (wpAny_missed_other h4 (AC ⟨v,rfl,h rv⟩))
  |some o=>exact ho.elim
 |some y=>
  rw[q]at ho;cases o with
  |none=>exact ho.elim
  |some o=>
   have h:=h o s' I';rw[q]at h;exact AC yz!
theorem pK{Q:p_}(hu:eo!)(I:d!)(m:bW_)(sub:M_)(e:cm_)(r:bV!)(hk:bo!)(rv:ky!)(hl:dr!)
  (hs:∀y o s',kget kvs d=some y->Inv X O Z H s'->Fu X.K G y o->Q o s')
  (hn:kget kvs d=none->∀au s',Inv X O Z kB_ s'->Nh X.prog X.w X.K G kB_ a (.dct o5! bb!)->Q v s'):wpAny e_ A (call (.builtin "dict.setdefault") [dQ_,u,v]) Q E s:=by
 obtain⟨es,B,Y,h3,h4,h5,h6⟩:=Jf I m sub e;have al:=FC Y.1;have hT:=fA!;refine BX JH hT PySem.F.entry_dict_setdefault ?_ (PySem.F.args_dict_setdefault_3 _ _ _);unfold Builtin.«dict.setdefault» yB!;refine AA pj!;dsimp only;rw[AH (by rw[h4];exact BC)];rcases Y.look hk with⟨i1,i2,i3,i4⟩|⟨j,y,e',i1,i2,i3,i4,i5,i6,i7⟩
 .refine AA (cW (A:=A.in1) hu h3 h6 hy! fz_ (λj e tk q=>by rw[i1]at q;cases q) λh' tk _ D' br=>AC ⟨_,rfl,hn i2 _ _ yB_ ⟨_,Dq,?_⟩⟩)
  .rw[AY,DN];omega
  .have:=Y.put (x:=x) hk r rv;rw[i1]at this;exact this
 .exact AA (cW (A:=A.in1) hu h3 h6 hy! fz_ (λj' e tk q q2=>by
   rw[i1]at q;cases q;rw[i3]at q2;cases q2;exact AC ⟨_,rfl,hs y _ _ i4 mE! i5⟩) λh' tk q=>by rw[i1]at q;cases q)
theorem c8c{Q:p_}(hu:eo!)(I:d!)(m:bW_)(sub:M_)(e:cm_)(r:bV!)(hk:bo!)(L:yw!)
  (h:∀au o s',Inv X O Z kB_ s'->Nh X.prog X.w X.K G kB_ a (.dct (Mn kvs d) bb!)->Fu X.K G x o->Q o s'):wpAny e_ A (call (.builtin "dict.pop") [dQ_,u]) Q E s:=by
 obtain⟨es,B,Y,h3,h4,h5,h6⟩:=Jf I m sub e;have hT:=fA!;rcases Y.look hk with⟨i1,i2,i3,i4⟩|⟨j,y,e',i1,i2,i3,i4,i5,i6,i7⟩
 .rw[i2]at L;cases L
 .rw[i4]at L;cases L;refine BX PySem.F.slot_dict_pop hT PySem.F.entry_dict_pop ?_ (PySem.F.args_dict_pop_2 _ _);unfold Builtin.«dict.pop» yB!;refine AA pj!;dsimp only;have fin:wpAny e_ A.in1 x5! (λao s'=>∃e o,ao=some e/\e.val=o/\Q o s') E s:=by
   refine c7p (A:=A.in1) hu h3 h6 hy! fz_ i1 i3 λh' tk D' br=>⟨e',_,rfl,rfl,h _ _ _ yB_ ⟨_,Dq,?_⟩ i5⟩
   .exact BN (List.length_eraseIdx_le _ _) h5
   .rw[i7];exact Y.del
  obtain⟨o,ho,_,hd⟩:=id h3;have b7:es.toArray.isEmpty=false:=by
   cases es with
   |nil=>simp at i3
   |cons _ _=>rfl
  by_cases hp:(keyPart u).isSome=true
  .rw[AN hp];refine AA ad_;rw[AH BC];refine AA yC_;subst q1 q2;exact AA yD!
  .rw[AH hp];refine AA (EJ ho hd (AA ad_));rw[b7,AH BC];refine AA yC_;subst q1 q2;exact AA yD!
end
section
variable{X:Cx}{O:List (Addr×Obj)}{Z:St}{H:Hp}{s:Shared}
theorem xT{ds es:b!}{A:Around}(I:d!)(qa:jX!)(qb:Lp X.K H b ws)(rd:ha_)(re:hb!)(hu:ao!)
  (h:jZ!):SeqAt.RcNeAt A s ac! dV! (!Qr ds es):=by
 obtain⟨us,rv,p1,_⟩:=I.tuple qa;obtain⟨us',aj,p2,_⟩:=I.tuple qb;have B:=Ar rd;have Y:=Ar re;have h3:=gh!;have h4:=jZ_;have z:=SeqAt.RcNeAt.tuples (A:=A) (e:=j0!) p1 p2 hu j0_;have e:wl_=Qr ds es:=by
  show"#4"
  .rw[hl,Nat.min_self,<-hl,j1!,hl];simp
  .rw[j1_];have:(f_==ag!)=false:=by simpa using hl
   rw[this,IH]
 rw[e]at z;exact z
theorem a2s{ds es:b!}{A:Around}(I:d!)(qa:ol_)(qb:Kw X.K H b ws)(rd:ha_)(re:hb!)(hu:ao!)
  (h:jZ!):SeqAt.RcNeAt A s ac! dV! (!Qr ds es):=by
 show"!B";have h4:=jZ_;by_cases hl:f_=ag!
 .have z:=SeqAt.RcNeAt.lists (A:=A) (e:=j0!) p1.isList p2.isList nW_ hu j0_;rw[AJ,<-h3,<-B,j1!]at z;exact z
 .rw[j1_];exact SeqAt.RcNeAt.lists_lengths p1.isList p2.isList wm! hu
theorem b2x(I:d!){A:Around}(n:cG_)(n':fi_)(hu:ao!)(r:ef!)(r':hc!)(ru:bu_)(ap:hc_)(hT:∀xs ys,d=.tup xs->d'=.tup ys->SeqAt.RcNeAt A s u u' kC_)(hL:∀xs ys,d=.lst xs->d'=.lst ys->SeqAt.RcNeAt A s u u' kC_):SeqAt.RcNeAt A s u u' kC_:=by
 show"!l"
 all_goals first|exact hT _ _ rfl rfl|exact hL _ _ rfl rfl|(unfold Jb;(try simp only[HD,DX]);with_reducible first|exact .none_none|exact .same _|exact .none_bool _|exact .none_int _ _|exact .none_str _ _|exact .none_tuple ‹_› hu|exact .none_list ‹_› hu|exact .bool_none _|exact .bool_bool _ _|exact .bool_int _ _ _|exact .bool_str _ _ _|exact .bool_tuple _ ‹_› hu|exact .bool_list _ ‹_› hu|exact .int_none _ _|exact .int_bool _ _ _|exact .int_int _ _ _ _|exact .int_str _ _ _ _|exact .int_tuple _ _ ‹_› hu|exact .int_list _ _ ‹_› hu|exact .str_none _ _|exact .str_bool _ _ _|exact .str_int _ _ _ _|exact .str_str _ _ _ _|exact .str_tuple _ _ ‹_› hu|exact .str_list _ _ ‹_› hu|exact .tuple_none ‹_› hu|exact .tuple_bool _ ‹_› hu|exact .tuple_int _ _ ‹_› hu|exact .tuple_str _ _ ‹_› hu|exact .tuple_list ‹_› ‹_› hu|exact .list_none ‹_› hu|exact .list_bool _ ‹_› hu|exact .list_int _ _ ‹_› hu|exact .list_str _ _ ‹_› hu|exact .list_tuple ‹_› ‹_› hu)
theorem b2y(I:d!)(d d':D){A:Around}(n:cG_)(n':fi_)(hu:wo_)(r:ef!)(r':hc!)(ru:bu_)(ap:hc_):SeqAt.RcNeAt A s u u' kC_:=
 b2x I n n' a! r r' ru ap (λxs ys e e'=>by
  subst e e';obtain⟨a,vs,rfl,q,rr⟩:=Da r;obtain⟨b,ws,rfl,q',bu⟩:=Da r';cases ru;cases ap;unfold Ct at n n';unfold Ot at hu;unfold Jb;exact xT I q q' rr bu a! λus us' rv aj=>Ua I xs ys A.in1 vs ws us us' n n' fj! rr bu rv aj) (λxs ys e e'=>by
  subst e e';obtain⟨a,vs,rfl,q,rr⟩:=De r;obtain⟨b,ws,rfl,q',bu⟩:=De r';cases ru;cases ap;unfold Ct at n n';unfold Ot at hu;unfold Jb;exact a2s I q q' rr bu a! λus us' rv aj=>Ua I xs ys A.in1 vs ws us us' n n' fj! rr bu rv aj)
noncomputable def c5q(K:W.Frag):R2:=λx y H Q=>∃dx dy,Bn K H dx x/\Bn K H dy y/\Ct dx=true/\Ct dy=true/\Ot dx<=40/\Q (.bl (!Jb dx dy)) H
theorem My(hu:aG_):Ml X sa! (c5q X.K):=by intro O s Z H x y v u Q I rx ry h;obtain⟨dx,dy,r1,r2,n1,n2,hd,q⟩:=h;exact b2y I dx dy n1 n2 a! r1 r2 rx ry X.prog X.w X.xe _ j2!
noncomputable def Fw:D->D->Option D:=λx y=>if Ct x&&Ct y&&decide (Ot x<=40)then some (.bl (!Jb x y))else none
theorem Wg{K:W.Frag}:Po K (c5q K) Fw:=by
 show"!/";unfold Fw at e;show"!7"
 .show"!t";cases e;exact wp!
 .cases e
open Classical in
noncomputable def eqW(K:W.Frag)(H:Hp)(x:D)(u:Value):Bool:=decide (∃d,Fu K H d u/\Ct d=true/\Jb d x=true)
open Classical in
theorem b6y(I:d!)(r:Fu X.K H d u)(n:cG_):eqW X.K H x u=Jb d x:=by
 unfold eqW;cases h:Jb d x with
 |true=>exact BJ ⟨d,r,n,h⟩
 |false=>
  refine AU ?_;rintro⟨d',⟨v',r',ap⟩,n',h'⟩;obtain⟨v,r,ru⟩:=r;have:=ru.inj ap;subst this;rw[sY I d d' v n n' r r']at h;rw[h]at h';cases h'
theorem dD(I:d!):∀{ds:b!} {vs:l_} {us:h!},Bb X.K H ds vs->Ci vs us->Dw ds=true->us.any (eqW X.K H x)=ds.any λd=>Jb d x
 |[],vs,us,r,rv,_=>by cases Fp r;cases rv;rfl
 |d::ds,vs,us,r,rv,n=>by
  obtain⟨v,t,rfl,r1,r2⟩:=Dg r;unfold Dw at n;rw[BI]at n;cases rv with
  |cons oy rf=>rw[EO,EO,b6y I ⟨v,r1,oy⟩ n.1,dD I r2 rf n.2]
theorem bU(I:d!){A:Around}(rx:Bn X.K H x y)(ry:Ds y v)(nx:Ct x=true):∀{ds:b!} {vs:l_} {us:h!},Bb X.K H ds vs->Ci vs us->Dw ds=true->A.units+Gz ds<cLine->∀u∈us,SeqAt.EqAt A s u v (eqW X.K H x u)
 |[],vs,us,r,rv,_,_=>λu hu=>by cases Fp r;cases rv;cases hu
 |d::ds,vs,us,r,rv,n,hd=>λu hu=>by
  obtain⟨z,t,rfl,r1,r2⟩:=Dg r;unfold Dw at n;rw[BI]at n;unfold Gz at hd;cases rv with
  |cons oy rf=>
   rcases AD.mp hu with rfl|hu
   .rw[b6y I ⟨z,r1,oy⟩ n.1];exact b7b I d x A z y _ _ n.1 nx a! r1 rx oy ry
   .exact bU I rx ry nx r2 rf n.2 a! u hu
noncomputable def c5s(K:W.Frag)(neg:Bool):R2:=λx y H Q=>∃p ys dx ds,y=.ref p/\n5_/\Bn K H dx x/\Bb K H ds ys/\Ct dx=true/\Dw ds=true/\Gz ds<=40/\Q (.bl (if neg then !(ds.any λd=>Jb d dx)else ds.any λd=>Jb d dx)) H
theorem c6i(hu:aG_):Ml X i3_ (c5s X.K false):=by
 intro O s Z H x y v u Q I rx ry h;obtain⟨p,ys,dx,ds,rfl,hq,r1,r2,n1,n2,hd,q⟩:=h;cases ry;rcases hq with hq|hq
 .show"!P";refine SeqAt.in_listAt fB_ pl.isList kD! eZ!;rw[kD_,kE!];exact q
 .show"!z";refine SeqAt.in_tupleAt fB_ pl kD! eZ!;rw[kD_,kE!];exact q
theorem a9q(hu:aG_):Ml X pl! (c5s X.K true):=by
 intro O s Z H x y v u Q I rx ry h;obtain⟨p,ys,dx,ds,rfl,hq,r1,r2,n1,n2,hd,q⟩:=h;cases ry;rcases hq with hq|hq
 .show"!P";refine SeqAt.notIn_listAt fB_ pl.isList kD! eZ!;rw[kD_,kE!];exact q
 .show"!z";refine SeqAt.notIn_tupleAt fB_ pl kD! eZ!;rw[kD_,kE!];exact q
noncomputable def c5t(P:Program)(w:World)(K:W.Frag)(neg:Bool):R2:=λx y H Q=>∃(M:Mh) (G:Hp) (a:Addr) (kvs:h_) (ep:Nat) (d:D) (k:MK),y=.ref a/\Cv G H/\MR P w K M G H/\M a=some hx!/\Bn K G d x/\Ge d=some k/\Q (.bl (if neg then !(dq!).isSome else(dq!).isSome)) H
theorem c6j(hu:aG_):Ml X i3_ (c5t X.prog X.w X.K false):=by intro O s Z H x y v u Q I rx ry h;obtain⟨M,G,a,kvs,ep,d,k,rfl,sub,m,e,r,hk,q⟩:=h;cases ry;exact AA yF_
theorem a9r(hu:aG_):Ml X pl! (c5t X.prog X.w X.K true):=by intro O s Z H x y v u Q I rx ry h;obtain⟨M,G,a,kvs,ep,d,k,rfl,sub,m,e,r,hk,q⟩:=h;cases ry;exact AA yF_
noncomputable def b9w(P:Program)(w:World)(K:W.Frag)(neg:Bool):R2:=λx y H Q=>c5s K neg x y H Q\/c5t P w K neg x y H Q
theorem Oy(hu:aG_):Ml X i3_ (b9w X.prog X.w X.K false):=(c6i hu).or (c6j hu)
theorem Xu(hu:aG_):Ml X pl! (b9w X.prog X.w X.K true):=(a9q hu).or (a9r hu)
noncomputable def sO(M:Mh):D->Option aL_
 |.lst xs=>some xs
 |.tup xs=>some xs
 |.fn a=>match M a with|some (.lst xs)=>some xs|_=>none
 |_=>none
theorem sN{K:W.Frag}{M:Mh}{G H:Hp}(sub:M_)(m:cl_)(r:cD!)(e:sO M d=some xs):∃p ys,v=.ref p/\n5_/\Bb K G xs ys:=by
 cases d<;>first|(cases e;done)|skip
 .cases e;show"!W";exact⟨p,vs,rfl,.inr g3_,rr⟩
 .cases e;obtain⟨p,vs,rfl,q,rr⟩:=De r;exact⟨p,vs,rfl,.inl n6!,rr⟩
 .rename_i a;cases Ly r;simp only[sO]at e;show"!7"
  .rename_i ys hy;cases e;obtain⟨_,vs,B,Y⟩:=m.cell a _ hy;exact⟨a,vs,rfl,.inl (Kw.of B),Y⟩
  .cases e
noncomputable def Qj(neg:Bool)(M:Mh)(x y:D):Option D:=match y with
 |.fn a=>match M a with
  |some (.dct kvs _)=>(Ge x).bind λ_=>some (.bl (if neg then !(kget kvs x).isSome else(kget kvs x).isSome))
  |_=>inS M x y
 |_=>inS M x y
where inS (M:Mh) (x y:D):Option D:=(sO M y).bind λds=>if Ct x&&Dw ds&&decide (Gz ds<=40)then some wu_ else none
theorem Kj{K:W.Frag}{neg:Bool}:OpM P w K (b9w P w K neg) (Qj neg):=by
 intro x y dx dy d M G H Q sub m rx ry e k;have seq:Qj.inS neg M dx dy=some d->b9w P w K neg x y H Q:=λe=>by
  obtain⟨ds,e1,e2⟩:=AB.mp e;split at e2
  .show"!t";cases e2;obtain⟨p,ys,rfl,q,rr⟩:=sN sub m ry e1;exact .inl ⟨p,ys,dx,ds,rfl,q,rx.mono sub,rr.mono sub,h.1.1,h.1.2,h.2,ec_⟩
  .cases e2
 unfold Qj at e;show"!7"
 .rename_i a;show"!7"
  .show"#<";cases e2;cases Ly ry;exact .inr ⟨M,G,a,kvs,ep,dx,kk,rfl,sub,m,hM,rx,e1,ec_⟩
  .exact seq e
 .exact seq e
noncomputable def d0t(P:Program)(w:World)(K:W.Frag):R2:=λx y H Q=>∃(M:Mh) (G:Hp) (a:Addr) (kvs:h_) (ep:Nat) (d z:D) (k:MK),x=.ref a/\Cv G H/\MR P w K M G H/\M a=some hx!/\Bn K G d y/\Ge d=some k/\kget kvs d=some z/\∀v,Bn K G z v->Q v H
theorem c7e(hu:aG_):IxR X (d0t X.prog X.w X.K):=by
 intro value f8 O s Z H x y v u Q I rx ry h hs;obtain⟨M,G,a,kvs,ep,d,z,k,rfl,sub,m,e,r,hk,hz,q⟩:=h;cases rx;obtain⟨es,B,Y,h3,h4,h5,h6⟩:=Jf I m sub e;unfold subscriptTail;refine AA ?_;rw[getitemInPython_of_ne h3.typeIs.not_modules];refine AA (HE h3.typeIs PySem.F.slot_dict_getitem.lookup ?_);have fin:wpAny e_ X.A (subscripted f8 false ac! u) (λr dr=>wpAny e_ X.A (letTemporaryGo value ac! r>>=λ_=>pure r) aH_ X.xe dr) X.xe s:=by
  rw[hs];exact wpAny_operating (a4p (A:=X.A) a! I m sub e ⟨_,r,ry⟩ hk hz λo s' I' ⟨v',r',ap⟩=>AA (wpAny_letTemporaryGo (AC ⟨v',H,I',ap,q v' r'⟩)))
 first
  |exact AC je_
  |exact AA (AC je_)
  |exact AA fin
noncomputable def d0u(P:Program)(w:World)(K:W.Frag):R2:=λx y H Q=>rIx K x y H Q\/d0t P w K x y H Q
theorem Ck(hu:aG_):IxR X (d0u X.prog X.w X.K):=An.or (c7e hu)
noncomputable def Dz(M:Mh)(x y:D):Option D:=match x with
 |.fn a=>match M a with
  |some (.dct kvs _)=>(fC!).bind λ_=>kget kvs y
  |some (.lst xs)=>match y with|.int i=>Gm xs i|_=>none
  |_=>none
 |_=>Aq x y
theorem Cj{K:W.Frag}:OpM P w K (d0u P w K) Dz:=by
 show"!`";unfold Dz at e;show"!7"
 .rename_i a;cases Ly rx;show"!7"
  .show"#<";exact .inr ⟨M,G,a,kvs,ep,dy,d,kk,rfl,sub,m,hM,ry,e1,e2,λv r=>k v G H aM! r⟩
  .rename_i xs hM;show"!7"
   .rename_i i;cases By ry;show"!|";obtain⟨v,e6,r6⟩:=bH Y e;exact .inl (.inl ⟨a,vs,i,v,rfl,rfl,Kw.of B,e6,k v G H aM! r6⟩)
   .cases e
  .cases e
 .exact .inl (Au sub rx ry e k)
noncomputable def dG(M:Mh)(x y:D):Option D:=match x with
 |.fn a=>match M a,y with
  |some (.lst xs),.lst ys=>if k_+Z!<=big then some (.lst et!)else none
  |_,_=>none
 |_=>Bd x y
theorem iZ{K:W.Frag}:OpM P w K (tG K) dG:=by
 show"!`";unfold dG at e;show"!7"
 .rename_i a;cases Ly rx;show"!7"
  .rename_i xs ys hM;show"!7"
   .show"!D";show"!|";obtain⟨b,ws,rfl,qb,rb⟩:=De ry;exact .inr (.inr (.inr (.inr ⟨a,b,vs,ws,rfl,rfl,Kw.of B,sub.seq qb,by rw[<-Ar Y,<-Ar rb];exact Fg hl,λp hp=>k _ _ _ g0_ (Fi fc! (Gb Y rb))⟩)))
   .cases e
  .cases e
 .exact Cz sub rx ry e k
end
noncomputable def Ie{α:Type}(o:Option α)(R:pp!):Prop:=match o with|some a=>R a|none=>False
theorem Gc{α:Type}{o:Option α}{R:pp!}(h:Ie o R):∃a,o=some a/\R a:=by
 cases o with
 |none=>exact h.elim
 |some a=>exact⟨a,rfl,h⟩
noncomputable def Mo(C:Addr)(x:Str)(M:Mh)(d:D):Option D:=match d with
 |.fn a=>match M a with
  |some (.obj C' fs)=>if C'=C then fs.lookup x else none
  |_=>none
 |_=>none
noncomputable def Dk(f:Str)(v:D):List ci!->List ci!
 |[]=>[(f,v)]
 |(g,x)::r=>if g=f then(g,v)::r else(g,x)::Dk f v r
theorem a0e{K:W.Frag}{G:Hp}{x:Str}:∀{fs:aN!} {vs:et_},dL K G fs vs->fs.lookup x=some d->∃v,vs.lookup x=some v/\Bn K G d v
 |_,_,.nil,e=>by simp at e
 |(a,b)::r,(a',b')::r',.cons ⟨B,Y⟩ t,e=>by
  have B:a=a':=B;subst B;cases L:(x==a)with
  |true=>
   simp only[BY,L]at e ⊢;cases e;exact⟨b',rfl,Y⟩
  |false=>
   simp only[BY,L]at e ⊢;exact a0e t e
theorem a0d{K:W.Frag}{G:Hp}{x:Str}:∀{fs:aN!} {vs:et_},dL K G fs vs->fs.lookup x=none->vs.lookup x=none
 |_,_,.nil,_=>rfl
 |(a,b)::r,(a',b')::r',.cons ⟨B,Y⟩ t,e=>by
  have B:a=a':=B;subst B;cases L:(x==a)with
  |true=>simp only[BY,L]at e;cases e
  |false=>
   simp only[BY,L]at e ⊢;exact a0d t e
theorem a7r{K:W.Frag}{G:Hp}{x:Str}(r:cD!):∀{fs:aN!} {vs:et_},dL K G fs vs->dL K G (Dk x d fs) (Uy x v vs)
 |_,_,.nil=>.cons ⟨rfl,r⟩ .nil
 |(a,b)::fs,(a',b')::vs,.cons ⟨B,Y⟩ t=>by
  have B:a=a':=B;subst B;show dL K G (if a=x then(a,d)::fs else Y!::Dk x d fs) (if a=x then(a,v)::vs else(a,b')::Uy x v vs);by_cases e:a=x
  .rw[AN e,AN e];exact .cons ⟨rfl,r⟩ t
  .rw[AH e,AH e];exact .cons ⟨rfl,Y⟩ (a7r r t)
section
variable{X:Cx}{own:List Nat}{e o a b:Expr}{es:List Expr}{pos ag ac p:Pos}{f fa fb fo:WE}{fs:WA}{x m:Str}{C:Addr}
noncomputable def Bs(C:Addr)(x:Str)(f:WE):WE:=λρ M R=>f ρ M λd M1=>Ie (Mo C x M1 d) λv=>R v M1
theorem Cn(c:dQ!)(n:Ir X.K C x)(h:bW!)(J:attributeBase e x X.env ez!=eval e X.env:=by rfl):ME X own (.Attribute e x pos) (Bs C x f):=
 Ju (c6c h.ok J) λZ G H Q ρ M R st e k=>⟨G,ρ,M,_,st,e,λd M1 v G1 H1 r1 x1 m1 q1=>by
  obtain⟨z,B,Y⟩:=Gc r1;cases d<;>first|(cases B;done)|skip
  rename_i ad;cases Ly q1;simp only[Mo]at B;split at B
  .rename_i C' fs hM;split at B
   .rename_i hC;subst hC;obtain⟨_,dx,vs,h3,h4⟩:=m1.cell ad _ hM;obtain⟨u,h5,h6⟩:=a0e h4 B;exact⟨ad,_,dx,vs,u,rfl,h3,c,n,h5,k z M1 u G1 H1 Y x1 m1 h6⟩
   .cases B
  .cases B⟩
noncomputable def oA(P:Program)(w:World)(K:W.Frag)(r:cv!)(g:hz_):Prop:=∀{vs:l_} {ds:b!} {d:D} {M:Mh} {G H:Hp} {Q:VK},Cv G H->MR P w K M G H->Bb K G ds vs->g M ds=some d->jD!->r vs H Q
theorem Zj.toM{K:W.Frag}{r:cv!}{g:X!}(h:Zj K r g):oA P w K r pd_:=λs _ r e k=>h s r e k
noncomputable def w1(g:hz_)(fs:WA):WE:=λρ M R=>fs ρ M λds M1=>Ie (g M1 ds) λd=>R d M1
theorem mD{id:String}{r:cv!}{g:hz_}(hc:mS!)(hd:yM!)(hg:R_)(hm:cs!)(hv:mS_)(ha:hA!)(hn:cs_:=by decide)
  (bc:G!:=by decide)(he:al_:=by rfl)(ax:aR_:=by rfl):ME X own bh! (w1 g fs):=
 Ju vB_ λZ G H Q ρ M R st e' k=>⟨G,ρ,M,_,st,e',λds M1 vs G1 H1 r1 x1 m1 q1=>by
  obtain⟨d,B,Y⟩:=Gc r1;exact hd x1.sub m1 q1 B λv G2 H2 x2 q2=>k d M1 v G2 H2 Y yM_ (m1.ext x2) q2⟩
theorem qU{T:String}{r:cv!}{g:hz_}(hc:mT_)(hd:yM!)(hg:R_)(hm:cs!)(hv:iT_)(ha:hA!)(hn:cs_:=by decide)
  (bc:G!:=by decide)(he:al_:=by rfl)(ax:aR_:=by rfl):ME X own bh! (w1 g fs):=
 Ju vC_ λZ G H Q ρ M R st e' k=>⟨G,ρ,M,_,st,e',λds M1 vs G1 H1 r1 x1 m1 q1=>by
  obtain⟨d,B,Y⟩:=Gc r1;exact hd x1.sub m1 q1 B λv G2 H2 x2 q2=>k d M1 v G2 H2 Y yM_ (m1.ext x2) q2⟩
noncomputable def a3z(M:Mh):List D->Option D
 |[.str x]=>Dd [.str x]
 |[d]=>(sO M d).map λxs=>.int k_
 |_=>none
theorem b7w{K:W.Frag}:oA P w K vO_ a3z:=by
 show"!T";unfold a3z at e;show"!7"
 .exact Jj sub r e k
 .obtain⟨xs,e1,rfl⟩:=AL.mp e;show"!o";refine⟨fg_,k_,rfl,?_,ec!⟩;rw[Ar rr];exact q.elim (λz=>.inl yN_) λz=>.inr yN_
 .cases e
noncomputable def a7i(M:Mh):List D->Option D
 |[d]=>(sO M d).bind λxs=>if k_<=big then some L! else none
 |_=>none
theorem c2y{K:W.Frag}:oA P w K vP! a7i:=by
 show"!T";unfold a7i at e;show"!7"
 .obtain⟨xs,e1,e2⟩:=AB.mp e;split at e2
  .cases e2;show"!o";exact⟨p,ys,rfl,q,λl hl=>k _ _ _ yO! (Fi (sub.free hl) rr)⟩
  .cases e2
 .cases e
noncomputable def Yq(fs:WA):WE:=λρ M R=>fs ρ M λds M1=>f_<=1000/\∀p,M1 p=none->R D_ (Cg M1 p cd_)
theorem uB(h:hv!):ME X own iM_ (Yq fs):=
 Ju jF_ λZ G H Q ρ M R st e k=>⟨G,ρ,M,_,st,e,λds M1 vs G1 H1 r1 x1 m1 q1=>⟨by rw[<-Ar q1];exact Mf r1.1,λp hp=>
  k _ _ _ _ _ (r1.2 p (m1.nocell hp)) (x1.trans (.laid x1.sub hp) m1) (m1.laid hp x1.sub ⟨vs,Dq,q1⟩) Bn.fn⟩⟩
noncomputable def dA(M:Mh)(d:D):Option (Addr×List D):=match d with
 |.fn p=>match M p with|some (.lst xs)=>some (p,xs)|_=>none
 |_=>none
theorem nR{K:W.Frag}{M:Mh}{G H:Hp}{q:Addr×List D}(m:cl_)(r:cD!)(e:dA M d=some q):d=.fn q.1/\v=.ref q.1/\M q.1=some (.lst q.2)/\∃vs,H q.1=some dd!/\Bb K G q.2 vs:=by
 cases d<;>first|(cases e;done)|skip
 rename_i p;cases Ly r;simp only[dA]at e;show"!7"
 .rename_i xs hM;cases e;exact⟨rfl,rfl,hM,(m.cell p _ hM).2⟩
 .cases e
noncomputable def Ip(M:Mh)(d:D):Option (Addr×List ay!×Nat):=match d with
 |.fn p=>match M p with|some (.dct kvs ep)=>some kH!|_=>none
 |_=>none
theorem Fb{K:W.Frag}{M:Mh}{G:Hp}{q:yP!}(r:cD!)(e:Ip M d=some q):d=.fn q.1/\v=.ref q.1/\M q.1=some pq_:=by
 cases d<;>first|(cases e;done)|skip
 rename_i p;cases Ly r;simp only[Ip]at e;show"!7"
 .rename_i xs ep hM;cases e;exact⟨rfl,rfl,hM⟩
 .cases e
noncomputable def wQ(fo fa:WE):WE:=λρ M R=>fo ρ M λd M1=>Ie (dA M1 d) λ_=>fa ρ M1 λv M2=>Ie (dA M2 d) λq=>pr!<big/\R .non yP_
theorem a7f(ho:cK!)(ha:ay_)(bx:jM!:=by rfl)(gk:((oq_).all cx_&&(cy!).all cy_
   &&decide or!)=true:=by rfl) (ez:c7_:=by rfl)
  (eh:attributeBase o "append" X.env dH_=eval o X.env:=by rfl) (gn:g8!:=by rfl):ME X own (.Call (.Attribute o "append" ag) [a] [] ac) (wQ fo fa):=
 Ju (qL FZ PySem.F.slot_list_append PySem.F.type_list_append qS ho.ok (Hq ha.ok Mx bx) eh gk ez bx gn) λZ G H Q ρ M R st e k=>
  ⟨G,ρ,M,_,st,e,λd M1 v G1 H1 r1 x1 m1 q1=>by
   obtain⟨c1,e1,r1⟩:=Gc r1;obtain⟨rfl,rfl,_,RE,hH,_⟩:=nR m1 q1 e1;refine⟨.inl ⟨rfl,RE,Kw.of hH⟩,G1,ρ,M1,_,kv!,r1,λz M2 u G2 H2 r2 x2 m2 q2=>?_⟩;obtain⟨⟨p2,WV⟩,e2,r2⟩:=Gc r2;obtain⟨z1,z2,z3,vs,B,Y⟩:=nR m2 cm! e2;cases z2;refine⟨_,vs,u,rfl,rfl,B,by rw[<-Ar Y];exact BE r2.1 (Fg x_),?_⟩;exact k _ _ _ _ _ r2.2 ((cI!).trans (.write m2 x2.sub z3) m2) (m2.write z3 ⟨_,Dq,Gb Y (Bb.cons q2 Bb.nil)⟩) Bn.non⟩
theorem Ud{O:n!}{Z:St}{G H:Hp}{s:Shared}{M:Mh}{q:yP!}(I:d!)(m:bW_)(sub:M_)(e:M q.1=some pq_):
  s.TypeIs (.ref q.1) "dict"/\∀b,Value.ref q.1=.ref b->∃ob,s.heap.get? b=some ob/\ob.dict=none:=by
 obtain⟨es,_,_,h3,_⟩:=Jf I m sub e;refine⟨fA!,λb z=>?_⟩;cases z;obtain⟨o,h,hc,_⟩:=h3;exact⟨o,h,hc.2.1⟩
theorem ME.run{O:n!}{Z:St}{G H:Hp}{ρ:Ag}{M:Mh}{R:u_}{Q:p_}(h:bW!)(I:d!)(st:ym_)(hf:hu!)
  (k:∀d M' v G' H' u s',R d M'->XM M G H M' G' H'->MR X.prog X.w X.K M' G' H'->Bn X.K G' d v->Inv X O Z H' s'->Ds v u->Q u s'):wpAny e_ X.A ez! Q X.xe s:=
 Gq (h.ok O s Z H (λv H'=>∃d M' G',R d M'/\XM M G H M' G' H'/\MR X.prog X.w X.K M' G' H'/\Bn X.K G' d v) I ⟨G,ρ,M,R,st,hf,λd M' v G' H' r x m q=>⟨d,M',G',r,x,m,q⟩⟩) λu s' ⟨v,H',I',rv,d,M',G',r,x,m,q⟩=>k d M' v G' H' u s' r x m q I' rv
noncomputable def dP(fo fa:WE):WE:=λρ M R=>fo ρ M λd M1=>Ie hB! λ_=>fa ρ M1 λy M2=>Ie (Ip M2 d) λq=>Ie fC! λ_=>R ((pt!).getD .non) M2
theorem b5r(hu:aG_)(ho:cK!)(ha:ay_)(m:M1 X o "get" ag a ac):ME X own (.Call yQ_ [a] [] ac) (dP fo fa):=⟨by
 intro O s Z H Q I ⟨G,ρ,M,R,st,e,k⟩;refine HU m.base m.few m.line GA GK PySem.F.type_dict_get kI!;obtain⟨c1,e1,r1⟩:=Gc r1;obtain⟨rfl,rfl,hM⟩:=Fb q1 e1;cases rx;obtain⟨t1,t2⟩:=Ud I1 m1 x1.sub hM;refine kI_;rw[m.trees];refine ER rfl yR!;obtain⟨⟨p2,yf,r9⟩,e2,r2⟩:=Gc r2;obtain⟨kk,e3,r2⟩:=Gc r2;obtain⟨z1,z2,fm⟩:=Fb cm! e2;cases z1;exact c2w (A:=X.A) a! I2 m2 x2.sub fm yR_ e3 λov s' I' ⟨v',r',ap⟩=>⟨v',H2,I',ap,k _ M2 v' G2 H2 r2 cI! m2 r'⟩⟩
noncomputable def Ou(fo fa fb:WE):WE:=λρ M R=>fo ρ M λd M1=>Ie hB! λ_=>fa ρ M1 λy M2=>fb ρ M2 λz M3=>Ie (Ip M3 d) λq=>Ie fC! λ_=>R ((pt!).getD z) M3
theorem mB(hu:aG_)(ho:cK!)(ha:ay_)(J:cI_)(m:M2 X o "get" ag a b ac):ME X own (.Call yQ_ ai! [] ac) (Ou fo fa fb):=⟨by
 intro O s Z H Q I ⟨G,ρ,M,R,st,e,k⟩;refine HU m.base m.few m.line GA GK PySem.F.type_dict_get kI!;obtain⟨c1,e1,r1⟩:=Gc r1;obtain⟨rfl,rfl,hM⟩:=Fb q1 e1;cases rx;obtain⟨t1,t2⟩:=Ud I1 m1 x1.sub hM;refine kI_;rw[m.trees];refine ER rfl (FY (EX (ha.run I1 fD_ r1 λy M2 yv G2 H2 iv s2 r2 x2 m2 q2 I2 ry=>
  EX yS_)))
 obtain⟨⟨p2,yf,r9⟩,e2,r3⟩:=Gc r3;obtain⟨kk,e3,r3⟩:=Gc r3;obtain⟨z1,z2,fm⟩:=Fb yT! e2;cases z1;exact c2v (A:=X.A) a! I3 m3 x3.sub fm yT_ e3 yU! λov s' I' ⟨v',r',ap⟩=>⟨v',H3,I',ap,k _ M3 v' G3 H3 r3 pt_ m3 r'⟩⟩
noncomputable def Pi(fo fa fb:WE):WE:=λρ M R=>fo ρ M λd M1=>Ie hB! λ_=>fa ρ M1 λy M2=>fb ρ M2 λz M3=>Ie (Ip M3 d) λq=>Ie fC! λ_=>q.2.1.length<big/\
 match kget q.2.1 y with
 |some v=>R v M3
 |none=>R z (Cg M3 q.1 (.dct (Bk q.2.1 y z) (q.2.2+1)))
theorem qT(hu:aG_)(ho:cK!)(ha:ay_)(J:cI_)(m:M2 X o "setdefault" ag a b ac):ME X own (.Call (.Attribute o "setdefault" ag) ai! [] ac) (Pi fo fa fb):=⟨by
 intro O s Z H Q I ⟨G,ρ,M,R,st,e,k⟩;refine HU m.base m.few m.line GA JH PySem.F.type_dict_setdefault kI!;obtain⟨c1,e1,r1⟩:=Gc r1;obtain⟨rfl,rfl,hM⟩:=Fb q1 e1;cases rx;obtain⟨t1,t2⟩:=Ud I1 m1 x1.sub hM;refine kI_;rw[m.trees];refine ER rfl (FY (EX (ha.run I1 fD_ r1 λy M2 yv G2 H2 iv s2 r2 x2 m2 q2 I2 ry=>
  EX yS_)))
 obtain⟨⟨p2,yf,r9⟩,e2,r3⟩:=Gc r3;obtain⟨kk,e3,hl,r3⟩:=Gc r3;obtain⟨z1,z2,fm⟩:=Fb yT! e2;cases z1;have ky:=(cI!).trans x3 m2;refine pK (A:=X.A) a! I3 m3 x3.sub fm yT_ e3 yU! hl (λw ov s' hw I' ⟨v',r',ap⟩=>?_) λhn au s' I' c'=>?_
 .dsimp only at r3;rw[hw]at r3;exact⟨v',H3,I',ap,k _ M3 v' G3 H3 r3 ky m3 r'⟩
 .dsimp only at r3;rw[hn]at r3;exact⟨zv,_,I',rz,k _ _ zv G3 _ r3 (ky.trans (.write m3 x3.sub fm) m3) (m3.write fm c') q3⟩⟩
noncomputable def b8z(fo fa:WE):WE:=λρ M R=>fo ρ M λd M1=>Ie hB! λ_=>fa ρ M1 λy M2=>Ie (Ip M2 d) λq=>Ie fC! λ_=>Ie pt! λv=>R v (Cg M2 q.1 (.dct (Mn q.2.1 y) (q.2.2+1)))
theorem b5q(hu:aG_)(ho:cK!)(ha:ay_)(m:M1 X o "pop" ag a ac):ME X own (.Call (.Attribute o "pop" ag) [a] [] ac) (b8z fo fa):=⟨by
 intro O s Z H Q I ⟨G,ρ,M,R,st,e,k⟩;refine HU m.base m.few m.line GA PySem.F.slot_dict_pop PySem.F.type_dict_pop kI!;obtain⟨c1,e1,r1⟩:=Gc r1;obtain⟨rfl,rfl,hM⟩:=Fb q1 e1;cases rx;obtain⟨t1,t2⟩:=Ud I1 m1 x1.sub hM;refine kI_;rw[m.trees];refine ER rfl yR!;obtain⟨⟨p2,yf,r9⟩,e2,r2⟩:=Gc r2;obtain⟨kk,e3,r2⟩:=Gc r2;obtain⟨w,e4,r2⟩:=Gc r2;obtain⟨z1,z2,fm⟩:=Fb cm! e2;cases z1;exact c8c (A:=X.A) a! I2 m2 x2.sub fm yR_ e3 e4 λau ov s' I' c' ⟨v',r',ap⟩=>⟨v',_,I',ap,k _ _ v' G2 _ r2 ((cI!).trans (.write m2 x2.sub fm) m2) (m2.write fm c') r'⟩⟩
noncomputable def Jk:WE:=λρ M R=>∀p,M p=none->R D_ cK_
theorem Kt:ME X own (.Dict [] [] pos) Jk:=⟨by
 intro O s Z H Q I ⟨G,ρ,M,R,st,e,k⟩;have hp:H q!=none:=I.fresh;have D0:fV yU_ s.heap.objs.size [] 0:=yV!;refine wpAny_Dict_empty ⟨c6!,upd H s.heap.objs.size yV_,yW!,rfl,?_⟩
 .obtain⟨⟨o,z1,z2,z3⟩,z4⟩:=z;exact ph_
 .exact k _ _ _ G _ (e _ (st.mr.nocell hp)) (.laid st.or.sub hp) (st.mr.laid hp st.or.sub yW_) Bn.fn⟩
end
abbrev WP:=Ag->Mh->(List ay!->Mh->Prop)->Prop
noncomputable def c4u(K:W.Frag)(G:Hp):List ay!->List pu!->Prop:=Paired λp q=>Fu K G p.1 q.1/\Fu K G p.2 q.2
structure MP(X:Cx)(own:k!)(pos:Pos)(keys:List (Option Expr))(ji:bH_)(f:WP):Prop where
 ok:∀(O:n!) (s:Shared) (Z:St) (G H:Hp) (ρ:Ag) (M:Mh) (R:yX!) (Q:List pu!->Shared->Prop),Inv X O Z H s->wJ X.prog X.w X.K own G H Z ρ M->f ρ M R->
  (∀kvs M' G' H' us s',R kvs M'->XM M G H M' G' H'->MR X.prog X.w X.K M' G' H'->c4u X.K G' kvs us->Inv X O Z H' s'->Q us s')->wpAny e_ X.A (evalPairs (pairTrees keys ji X.env pos)) Q X.xe s
section
variable{X:Cx}{own:List Nat}{e o a b:Expr}{es:List Expr}{pos ag ac p:Pos}{f fa fb fo:WE}{fs:WA}{fp:WP}{keys:List (Option Expr)}{ji:List Expr}
noncomputable def aR:WP:=λ_ M R=>R [] M
noncomputable def Iy(fa fb:WE)(fp:WP):WP:=λρ M R=>fa ρ M λx M1=>fb ρ M1 λy M2=>fp ρ M2 λkvs M3=>R ((x,y)::kvs) M3
theorem lV:MP X own pos [] [] aR:=⟨λO s Z G H ρ M R Q I st e k=>pairTrees_nil_walk (k [] M G H [] s e pc_ st.mr .nil I)⟩
theorem Pk(ha:ay_)(J:cI_)(hp:yZ_):MP X own pos (some a::keys) (b::ji) (Iy fa fb fp):=⟨λO s Z G H ρ M R Q I st e k=>
 pairTrees_cons_walk (ha.run I st e λx M1 v G1 H1 u s1 r1 x1 m1 q1 I1 ru=>J.run I1 fD_ r1 λy M2 v2 G2 H2 u2 s2 r2 x2 m2 q2 I2 RF=>
  hp.ok O s2 Z G2 H2 ρ M2 _ _ I2 yS! r2 λkvs M3 G3 H3 us s3 r3 x3 m3 q3 I3=>
   k _ M3 G3 H3 _ s3 r3 pt_ m3 (.cons ⟨⟨v,(cm!).mono x3.g,ru⟩,⟨v2,q2.mono x3.g,RF⟩⟩ q3) I3)⟩
theorem Qg:∀{l:h_} {d x:D},d∉l.map a_->Bk l d x=l++[dp_]
 |[],_,_,_=>rfl
 |(y,z)::l,d,x,h=>by
  rw[AK,AD,GN]at h;unfold Bk;rw[kK!,Qg h.2];rfl
theorem mN:∀{l:h_} {d:D},d∉l.map a_->kget l d=none
 |[],_,_=>rfl
 |(y,z)::l,d,h=>by
  rw[AK,AD,GN]at h;unfold kget;rw[kK!,mN h.2]
theorem pU{O:n!}{Z:St}{G:Hp}{A:Around}{E:p_}(hu:ao!):∀{kvs:h_} {us:List pu!} {acc:h_} {H:Hp} {s:Shared} {M:Mh} {n:Nat} {Q:y1!},c4u X.K G kvs us->Inv X O Z H s->MR X.prog X.w X.K M G H->Cv G H->
  M c=some (.dct acc n)->cL!+az!<=1000->(∀p∈kvs,(Ge p.1).isSome=true)->((acc++kvs).map a_).Nodup->
  (∀H' s',Inv X O Z H' s'->XM M G H y3! G H'->MR X.prog X.w X.K y3! G H'->Q PUnit.unit s')->
  wpAny e_ A (forIn us PUnit.unit λ(x:Value×Value) (_:PUnit)=>(do dictSet c x.1 x.2;pure (ForInStep.yield PUnit.unit):Sem y3_)) Q E s
 |_,_,acc,H,s,M,n,Q,.nil,I,m,sub,hM,hl,hk,nd,k=>by
  rw[HC];have hc:Cg M c (.dct (acc++[]) (n+0))=M:=by
   funext b;unfold Cg;split
   .rename_i e;rw[e,BL,hM];rfl
   .rfl
  have k:=k H s I;rw[EW,hc]at k;exact AC (k (.refl sub) m)
 |(d,x)::kvs,(u,v)::us,acc,H,s,M,n,Q,.cons r t,I,m,sub,hM,hl,hk,nd,k=>by
  rw[FH];obtain⟨kk,hd⟩:=HH.mp (hk _ AM);have ou:d∉acc.map a_:=λz=>by
   rw[BK,BO]at nd;exact nd.2.2 d z d d_ rfl
  simp only[AR]at hl;refine AA (AA (b7s hu I m sub hM r.1 hd r.2 (BE a! (show 1001<=big by decide)) λau s' I' c'=>AC ?_));have vm:Lq acc d n=n+1:=by unfold Lq;rw[mN ou];simp
  rw[vm,Qg ou]at c';rw[vm]at I';have m':=m.write hM c';have RG:Cv G (upd H c (dE c au cF_)):=(XM.write (c:=.dct (acc++[dp_]) cF_) m sub hM).sub;refine pU hu t I' m' RG mup_same y4! (λp hp=>hk p jn!) (by rw[CN];exact nd) λH2 s2 I2 x2 m2=>?_;have hc:Cg (Cg M c (.dct (acc++[dp_]) cF_)) c (.dct (acc++[dp_]++kvs) (n+1+az!))=Cg M c (.dct (acc++dp_::kvs) (n+(dp_::kvs).length)):=by
   funext b;unfold Cg;split
   .rw[CN,AR];simp only[List.singleton_append];rw[show n+1+kvs.length=n+(kvs.length+1)by omega]
   .rfl
  rw[hc]at x2 m2;exact k H2 s2 I2 ((XM.write m sub hM).trans x2 m') m2
noncomputable def aT(fp:WP):WE:=λρ M R=>∀p,M p=none->fp ρ cK_ λkvs M1=>M1 p=some E!/\az!<=1000/\(∀q∈kvs,(Ge q.1).isSome=true)/\(fu_).Nodup/\R D_ (Cg M1 p (.dct kvs az!))
theorem bV(hu:aG_)(hp:yZ_)(ff:keys.all (·.isSome)=true:=by rfl)(hl:keys.length=ji.length:=by rfl)(h0:keys≠[]:=by simp)(LV:keys.length<=15:=by decide):ME X own (.Dict keys ji pos) (aT fp):=⟨by
 intro O s Z H Q I ⟨G,ρ,M,R,st,e,k⟩;have hn:=pairTrees_length keys ji X.env pos ff hl;have ii:pairTrees keys ji X.env pos≠[]:=λz=>by rw[z]at hn;exact h0 (HL.mp hn.symm)
 rw[arm_eval_Dict,zip_pairTrees keys ji X.env pos ff hl,dictDisplay_pairs _ ii a!];unfold subDict;have hf:H q!=none:=I.fresh;have D0:fV yU_ s.heap.objs.size [] 0:=yV!;have I1:Inv X O Z px! {s with heap:=s.heap.push {cls:=.type "dict",data:=.dict #[]}}:=by
  refine yW!;obtain⟨⟨o,z1,z2,z3⟩,z4⟩:=z;exact ph_
 have x0:XM M G H y5! G px!:=.laid st.or.sub hf;have m0:MR X.prog X.w X.K y5! G px!:=st.mr.laid hf st.or.sub yW_;refine AA (IA (AA (AA (wpAny_alloc (AA (CC ?_))))));rw[ab!];refine AA (hp.ok O _ Z G _ ρ _ _ _ I1 (st.grow x0 m0) (e _ (st.mr.nocell hf)) λkvs M1 G1 H1 us s1 r1 x1 m1 q1 I2=>?_);obtain⟨hM1,al,hk,nd,r1⟩:=r1;refine CC (AA (pU (A:=X.A) (acc:=[]) a! q1 I2 m1 x1.sub hM1 (by simpa using al) hk nd λH2 s2 I3 x2 m2=>AC (AC (AC ⟨c6!,H2,I3,rfl,?_⟩))));have LW:=(x0.trans x1 m0).trans x2 m1;simp only[CT,JE]at LW m2;exact k _ _ _ G1 H2 r1 LW m2 Bn.fn⟩
end
abbrev WS:=Ag->Mh->(Fl->Mh->Prop)->Prop
structure Rs(P:Program)(w:World)(K:W.Frag)(own:k!)(M0:Mh)(G0 F0:Hp)(M:Mh)(G H:Hp)(Z:St)(ρ:Ag):Prop where
 st:wJ P w K own G H Z ρ M
 x:XM M0 G0 F0 M G H
 fr:∀i∈own,∀p,Z[i]?=some ce_->F0 p=none
inductive tmS(P:Program)(w:World)(K:W.Frag)(M0:Mh)(G0 F0:Hp)(own h2:k!)(f:WS)(E:a5c)(Z:St)(H:Hp):Prop
 |mk (G:Hp) (ρ:Ag) (M:Mh) (R:m_) (st:bX!) (e:hu!) (a:∀ρ' M' G' hx H',R cL_ M'->Rs P w K h2 M0 G0 F0 M' G' H' hx ρ'->E.nx hx H') (b:∀d M' v G' H',R bm_ M'->XM M0 G0 F0 M' G' H'->MR P w K M' G' H'->Bn K G' d v->E.rt v H'):tmS P w K M0 G0 F0 own h2 f E Z H
structure MS(X:Cx)(own h2:k!)(st:Stmt)(f:WS):Prop where
 ok:∀M0 G0 F0,PS X st y6!
structure MSs(X:Cx)(own h2:k!)(st:b0_)(f:WS):Prop where
 ok:∀M0 G0 F0,PSs X st y6!
section
variable{P:Program}{w:World}{K:W.Frag}{own h2:List Nat}{M0 M M':Mh}{G0 F0 G H G' H':Hp}{Z hx:St}{ρ ρ':Ag}
theorem Rs.grow(s:bX!)(x:kr_)(m:yi_):Rs P w K own M0 G0 F0 M' G' H' Z ρ:=⟨s.st.grow x m,s.x.trans x s.st.mr,s.fr⟩
theorem Rs.set{i:Nat}(s:bX!)(hi:bl_)(r:cD!):Rs P w K own M0 G0 F0 M G H ex_ cf_:=by
 have ne:∀j∈own,i≠j:=λj hj z=>hi (z▸hj);refine⟨⟨s.st.or.set hi r,s.st.mr,y6_⟩,s.x,y6_⟩
 .rw[BP (ne j hj)]at e;exact s.st.dj j hj p e
 .rw[BP (ne j hj)]at e;exact s.fr j hj p e
noncomputable def Lx(own:k!)(Z:St)(H:Hp):Hp:=λb=>if b∈Sc own Z then none else H b
theorem Rs.sr(s:bX!):SR K own G kM! G H Z ρ:=by
 refine⟨s.st.or,⟨e9_,jz!,s.st.or.sub,dk_⟩,we!⟩
 .unfold Lx at e;show"!7"
  .cases e
  .exact e
 .unfold Lx;rw[AN (xN hi e)]
theorem Rs.root(s:bX!){b:Addr}(h:b∈Sc own Z):M b=none/\F0 b=none:=by obtain⟨i,hi,q⟩:=Ya h;exact⟨s.st.dj i hi b q,s.fr i hi b q⟩
theorem Rs.noF(s:bX!){b:Addr}(h:Lx own Z H b=none):F0 b=none:=by
 unfold Lx at h;split at h
 .rename_i J;exact(kN!).2
 .cases hM:M0 b with
  |none=>exact s.x.free hM h
  |some c=>exact absurd h (s.st.mr.has (s.x.cells b yh_))
theorem Rs.cellF(s:bX!){b:Addr}{c:dN}(h:M b=some c):Lx own Z H b=H b/\H b≠none:=by refine⟨?_,s.st.mr.has (by rw[h];simp)⟩;unfold Lx;rw[AH (λJ=>by rw[(kN!).1]at h;cases h)]
theorem Rs.mr'(s:bX!)(x:y8_):MR P w K M G' H':=⟨λa c e=>by
 obtain⟨B,Y⟩:=s.st.mr.cell a c e;obtain⟨e1,e2⟩:=s.cellF e;refine yi!
 .cases q:G' a with
  |none=>rfl
  |some o=>
   rcases x.new a ca! with z|z
   .exact absurd B z
   .rw[e1]at z;exact absurd z e2
 .cases q:H a with
  |none=>exact absurd q e2
  |some o=>exact x.h a o (e1.trans q)⟩
theorem Rs.x'(s:bX!)(x:y8_):XM M0 G0 F0 M G' H':=by
 refine⟨s.x.g.trans x.g,x.sub,bl!,y9!,s.x.dom,s.x.cells⟩
 .rcases x.new b h with z|z
  .exact s.x.new b z
  .exact py_
 .have B:=s.x.keep b o e J;refine x.h b o ?_;unfold Lx;rw[y9_];exact B
theorem Rs.after(s:bX!)(r:SR K h2 G kM! G' H' hx ρ'):Rs P w K h2 M0 G0 F0 M G' H' hx ρ':=
 ⟨⟨r.or,s.mr' r.ext,λi hi p e=>by
  cases q:M p with
  |none=>rfl
  |some c=>
   obtain⟨e1,e2⟩:=s.cellF q;have:=r.fr i hi p e;rw[e1]at this;exact absurd this e2⟩,s.x' r.ext,λi hi p e=>s.noF (r.fr i hi p e)⟩
end
section
variable{X:Cx}{own bh jf:List Nat}{st:Stmt}{rest body:List Stmt}{e a b c tg o:Expr}{es:List Expr}{pos p2:Pos}{f fa fb fc fo:WE}{fs:WA}{ft fu:WT}{q1 q2 q3:WS}{q:Ag->Option Fl}
theorem bS{t:TS}(h:ig!)(hw:∀M0 G0 F0 E Z G H ρ M R,Rs X.prog X.w X.K own M0 G0 F0 M G H Z ρ->q1 ρ M R->
  (∀ρ' M' G' hx H',R cL_ M'->Rs X.prog X.w X.K bh M0 G0 F0 M' G' H' hx ρ'->E.nx hx H')->(∀d M' v G' H',R bm_ M'->XM M0 G0 F0 M' G' H'->MR X.prog X.w X.K M' G' H'->Bn X.K G' d v->E.rt v H')->t E Z H):MS X own bh st q1:=
 ⟨λM0 G0 F0 O s Z H E I ⟨G,ρ,M,R,sr,e,k1,k2⟩=>h O s Z H E I (hw M0 G0 F0 E Z G H ρ M R sr e k1 k2)⟩
noncomputable def wlS(q:aM_):WS:=λρ M R=>Ie (q ρ) λr=>R r M
theorem b5j(h:DS X own bh st q):MS X own bh st (wlS q):=⟨λM0 G0 F0 O s Z H E I ⟨G,ρ,M,R,sr,e,k1,k2⟩=>by
 obtain⟨r,e1,e2⟩:=Gc e;refine h.ok G kM! O s Z H E I ⟨G,ρ,r,sr.sr,e1,?_⟩;cases r with
 |nx ρ'=>exact λG' hx H' cf=>k1 ρ' M G' hx H' e2 (sr.after cf)
 |rt d=>exact λv G' H' x r=>k2 d M v G' H' e2 (sr.x' x) (sr.mr' x) r⟩
noncomputable def Di:WS:=λρ M R=>R aG! M
noncomputable def Ap(q1 q2:WS):WS:=λρ M R=>q1 ρ M λr M1=>match r with|.nx ah=>q2 ah M1 R|.rt d=>R bm_ M1
theorem Db:MSs X own own [] Di:=⟨λM0 G0 F0 O s Z H E I ⟨G,ρ,M,R,sr,e,k1,k2⟩=>a6k O s Z H E I (k1 ρ M G Z H e sr)⟩
theorem Al(B:za_)(Y:MSs X bh jf rest q2):MSs X own jf lV_ (Ap q1 q2):=⟨λM0 G0 F0 O s Z H E I ⟨G,ρ,M,R,sr,e,k1,k2⟩=>
 yH pz! zb! O s Z H E I ⟨G,ρ,M,_,sr,e,λρ' M' G' hx H' r du=>⟨G',ρ',M',R,du,r,k1,k2⟩,λd M' v G' H' r x m q=>k2 d M' v G' H' r x m q⟩⟩
theorem Am(B:za_):MSs X own bh [st] q1:=⟨λM0 G0 F0=>a6j pz!⟩
theorem Rs.free{P:Program}{w:World}{K:W.Frag}{M0 M:Mh}{G0 F0 G H:Hp}{Z:St}{ρ:Ag}(s:bX!):Rs P w K [] M0 G0 F0 M fa! H Z ρ:=by
 have o:=s.st.or.full;have sG:Cv G fa!:=λb u e=>by
  unfold Uv;split
  .exact s.st.or.sub b u e
  .exact e
 refine⟨⟨o,⟨λa c e=>?_⟩,am_⟩,⟨s.x.g.trans sG,o.sub,bl!,s.x.keep,s.x.dom,s.x.cells⟩,am_⟩
 .obtain⟨B,Y⟩:=s.st.mr.cell a c e;refine⟨?_,Y.mono sG rfl⟩;unfold Uv;rw[AH (λJ=>by rw[(kN!).1]at e;cases e)];exact B
 .unfold Uv at h;split at h
  .rename_i J;exact .inr (kN!).2
  .exact s.x.new b h
theorem lU(h:MSs X [] jf rest q1):MSs X own jf rest q1:=⟨λM0 G0 F0 O s Z H E I ⟨G,ρ,M,R,sr,e,k1,k2⟩=>h.ok M0 G0 F0 O s Z H E I ⟨_,ρ,M,R,sr.free,e,k1,k2⟩⟩
noncomputable def Bz(f:WE):WS:=λρ M R=>f ρ M λd M1=>R bm_ M1
theorem Cq(h:bW!):MS X own bh lW! (Bz f):=bS (b3y h.ok) λM0 G0 F0 E Z G H ρ M R sr e k1 k2=>
 ⟨G,ρ,M,_,sr.st,e,λd M' v G' H' r x m q=>k2 d M' v G' H' r (sr.x.trans x sr.st.mr) m q⟩
noncomputable def jO:WS:=λ_ M R=>R (.rt .non) M
theorem tZ:MS X own bh rq! jO:=bS c0l λM0 G0 F0 E Z G H ρ M R sr e k1 k2=>k2 _ M _ G H e sr.x sr.st.mr Bn.non
noncomputable def Ba(i:Nat)(f:WE):WS:=λρ M R=>f ρ M λd M1=>R pz_ M1
theorem Cd{i:Nat}(hN:bt_)(hi:ak_)(L:bu!)(h:bW!)(bo:bl_:=by decide)(hs:vZ_:=by rfl)
  (hf:X.fn x=true\/X.env.scope.names.lookup x=some .local:=by first|exact .inl rfl|exact .inr rfl|assumption):MS X own own v0! (Ba i f):=
 bS v0_ λM0 G0 F0 E Z G H ρ M R sr e k1 k2=>⟨G,ρ,M,_,sr.st,e,λd M' v G' H' r x m q=>k1 _ M' G' _ H' r ((pA!).set bo q)⟩
noncomputable def Bj(ft:WT)(q1 q2:WS):WS:=λρ M R=>ft ρ M λb M1=>if b then q1 ρ M1 R else q2 ρ M1 R
theorem Ef{b1 b2:b0_}(hc:pe_)(B:MSs X own bh b1 q1)(Y:MSs X own bh b2 q2):MS X own bh v1_ (Bj ft q1 q2):=⟨λM0 G0 F0 O s Z H E I ⟨G,ρ,M,R,sr,e,k1,k2⟩=>by
 refine c3y hc.ok pz! zb! O s Z H E I ⟨G,ρ,M,_,sr.st,e,λb M' G' H' r x m=>?_⟩;cases b with
 |true=>exact Ww zg!
 |false=>exact Wx zg!⟩
noncomputable def En(f:WE):WS:=λρ M R=>f ρ M λ_ M1=>R aG! M1
theorem Fm(h:bW!)(hs:rp_:=by rfl):MS X own own (.Expr e pos) (En f):=
 bS (iX h.ok hs) λM0 G0 F0 E Z G H ρ M R sr e k1 k2=>⟨G,ρ,M,_,sr.st,e,λd M' v G' H' r x m q=>k1 ρ M' G' Z H' r pA!⟩
noncomputable def Jg:WS:=λ_ _ _=>False
theorem Oc:MS X own bh st Jg:=⟨λM0 G0 F0 O s Z H E I ⟨G,ρ,M,R,sr,e,k1,k2⟩=>e.elim⟩
noncomputable def Hm(C:Addr)(x:Str)(fo f:WE):WS:=λρ M R=>f ρ M λy M1=>fo ρ M1 λd M2=>match d with
 |.fn p=>(match M2 p with|some (.obj C' fs)=>C'=C/\bs!<100/\R aG! (Cg M2 p pA_)|_=>False)
 |_=>False
theorem Me(c:dQ!)(n:Ir X.K C x)(ho:cK!)(h:bW!)(hs:swapsWith e (some (.Attribute o x p2)) pos.line X.env=pure false:=by rfl):MS X own own (.Assign [.Attribute o x p2] e pos) (Hm C x fo f):=
 bS (c5x ho.ok h.ok hs) λM0 G0 F0 E Z G H ρ M R sr e k1 k2=>⟨G,ρ,M,_,sr.st,e,λy M1 v G1 H1 r1 x1 m1 q1=>⟨G1,ρ,M1,_,sr.st.grow x1 m1,r1,λd M2 u G2 H2 r2 x2 m2 q2=>by
  cases d<;>first|exact r2.elim|skip
  rename_i p;cases Ly q2;dsimp only at r2;split at r2
  .rename_i C' fs hM;obtain⟨hC,hl,r2⟩:=r2;subst hC;obtain⟨_,dx,vs,h3,h4⟩:=m2.cell p _ hM;have al:bs!=bz!:=FC h4;exact⟨p,_,dx,vs,rfl,h3,c,n,t_,k1 ρ _ G2 Z _ r2 ((zh_).grow (.write m2 x2.sub hM) (m2.write hM ⟨dx,_,Dq,a7r cm! h4⟩))⟩
  .exact r2.elim⟩⟩
noncomputable def Ux(M:Mh)(d y v:D):Option Mh:=match d with
 |.fn p=>match M p with
  |some (.dct kvs ep)=>if(fC!).isSome&&decide (az!<big)then some hF! else none
  |some (.lst xs)=>match y with
   |.int j=>(Iw xs.length j).map λk=>Cg M p (.lst (xs.set k v))
   |_=>none
  |_=>none
 |_=>none
noncomputable def d0n(P:Program)(w:World)(K:W.Frag):V->V->V->Hp->lW_->Prop:=λo i v H Q=>∃(M:Mh) (G:Hp) (a:Addr) (kvs:h_) (ep:Nat) (d x:D) (k:MK),o=.ref a/\Cv G H/\MR P w K M G H/\M a=some hx!/\Bn K G d i/\Ge d=some k/\Bn K G x v/\az!<big/\
 ∀au,Nh P w K G ky_ a yv!->Q ky_
theorem b9o(hu:aG_):b1e X (d0n X.prog X.w X.K):=by intro O s Z H o i v ov iv u Q I ro ri rv h;obtain⟨M,G,a,kvs,ep,d,x,k,rfl,sub,m,e,r,hk,rx,hl,q⟩:=h;cases ro;exact a4o (A:=X.A) a! I m sub e ⟨_,r,ri⟩ hk ⟨_,rx,rv⟩ hl λau s' I' c'=>⟨_,I',q au c'⟩
theorem c0j{r r':c3f}(h:b1e X r)(h':b1e X r'):b1e X (λo i v H Q=>r o i v H Q\/r' o i v H Q):=by
 intro O s Z H o i v ov iv u Q I ro ri rv q;rcases q with q|q
 .exact h O s Z H o i v ov iv u Q I ro ri rv q
 .exact h' O s Z H o i v ov iv u Q I ro ri rv q
noncomputable def Ei(fo fi f:WE):WS:=λρ M R=>f ρ M λv M1=>fo ρ M1 λd M2=>fi ρ M2 λy M3=>Ie pC! λM4=>R aG! M4
theorem Gr{fi:WE}(hu:aG_)(ho:cK!)(hi:ME X own i fi)(h:bW!)
  (ha:∀v,assign zj! X.env v=(do
   let ov <-holding [v] dH_
   let iv <-holding [v,ov] rt_
   standAt p2
   holding eE_ lY!
   release eE_ []):=by intro _;rfl)
  (hs:swapsWithSole kP_ e pos.line X.env=pure false:=by rfl) (hw:swappedStores kP_ e X.env=pure none:=by rfl)
  (B:(assignEach kP_ X.env).map B_=[assign zj! X.env]:=by rfl):MS X own own (.Assign kP_ e pos) (Ei fo fi f):=
 bS (b4a h.ok (b4g ho.ok hi.ok (c0j xD (b9o hu)) ha) hs hw B) λM0 G0 F0 E Z G H ρ M R sr e k1 k2=>⟨G,ρ,M,_,sr.st,e,λv M1 vv G1 H1 r1 x1 m1 q1=>⟨G1,ρ,M1,_,sr.st.grow x1 m1,r1,λd M2 dv G2 H2 r2 x2 m2 q2=>
  ⟨G2,ρ,M2,_,(sr.st.grow x1 m1).grow x2 m2,r2,λy M3 yv G3 H3 r3 x3 m3 q3=>by
   obtain⟨M4,e4,r4⟩:=Gc r3;have vn:=(zh_).grow x3 m3;have qd:=q2.mono x3.g;have qv:=(cm!).mono x3.g;unfold Ux at e4;split at e4
   .rename_i p;cases Ly qd;split at e4
    .rename_i kvs ep hM;split at e4
     .rename_i hc;rw[BI,BM]at hc;cases e4;obtain⟨kk,hk⟩:=HH.mp hc.1;exact .inr ⟨M3,G3,p,kvs,ep,y,v,kk,rfl,x3.sub,m3,hM,q3,hk,qv,hc.2,λau c'=>k1 ρ _ G3 Z _ r4 (vn.grow zl! (m3.write hM c'))⟩
     .cases e4
    .rename_i xs hM;split at e4
     .rename_i j;cases By q3;obtain⟨n,e5,rfl⟩:=AL.mp e4;obtain⟨_,vs,h3,h4⟩:=m3.cell p _ hM;exact .inl ⟨p,vs,j,n,rfl,rfl,h3,by rw[<-Ar h4];exact e5,k1 ρ _ G3 Z _ r4 (vn.grow zl! (m3.write hM ⟨_,Dq,kX qv n h4⟩))⟩
     .cases e4
    .cases e4
   .cases e4⟩⟩⟩
noncomputable def wP(i:Nat)(f:WE):WS:=λρ M R=>match ρ[i]? with
 |some (some (.int a))=>f ρ M λd M1=>(match d with|.int b=>R (.nx (ρ.set i (some (.int (a+b))))) M1|_=>False)
 |_=>False
theorem b5k{i:Nat}(hN:bt_)(hi:ak_)(L:bu!)(h:bW!)(bo:bl_:=by decide)
  (hf:X.fn x=true\/X.env.scope.names.lookup x=some .local:=by first|exact .inl rfl|exact .inr rfl|assumption):MS X own own (.AugAssign di! .Add e pos) (wP i f):=
 bS (c5y hN hi L h.ok c7h hf) λM0 G0 F0 E Z G H ρ M R sr e k1 k2=>by
  unfold wP at e;show"!7"
  .rename_i a m6;obtain⟨v,B,Y⟩:=sr.st.or.at_ i _ m6 bo;cases By Y;refine⟨_,B,G,ρ,M,_,sr.st,e,zl_⟩;cases d<;>first|exact r.elim|skip
   cases By q;exact⟨a,_,rfl,rfl,k1 _ M' G' _ H' r ((pA!).set bo Bn.int)⟩
  .exact e.elim
noncomputable def Ga(ft:WT)(q:WS):Nat->WS
 |0=>λ_ _ _=>False
 |n+1=>λρ M R=>ft ρ M λb M1=>if b then q ρ M1 (λr M2=>match r with|.nx bg=>Ga ft q n bg M2 R|.rt d=>R bm_ M2)else R aG! M1
noncomputable def Kf(ft:WT)(q:WS):WS:=λρ M R=>∃n,Ga ft q n ρ M R
theorem Sh(hp:ge_)(hc:pe_)(J:zm_):MS X own own rz_ (Kf ft q1):=⟨λM0 G0 F0 O s Z H E I ⟨G,ρ,M,R,sr,⟨n,e⟩,k1,k2⟩=>by
 refine b3x hp hc.ok (J.ok M0 G0 F0) O s Z H E I ⟨λm hx H'=>∃G' ρ' M',Rs X.prog X.w X.K own M0 G0 F0 M' G' H' hx ρ'/\Ga ft q1 m ρ' M' R,⟨n,G,ρ,M,sr,e⟩,?_⟩;rintro m hx H' ⟨G',ρ',M',du,e'⟩;cases m with
 |zero=>exact e'.elim
 |succ m=>
  refine⟨G',ρ',M',_,du.st,e',λb M1 G1 H1 r1 x1 m1=>?_⟩;cases b with
  |true=>exact Ww ⟨λcy H2=>∃G2 bg M2,Rs X.prog X.w X.K own M0 G0 F0 M2 G2 H2 cy bg/\Ga ft q1 m bg M2 R,λcy H2 h=>⟨m,HP m,h⟩,G1,ρ',M1,_,du.grow x1 m1,r1,λbg M2 G2 cy H2 r2 yg=>⟨G2,bg,M2,yg,r2⟩,λd M2 v G2 H2 r2 x2 m2 q2=>k2 d M2 v G2 H2 r2 x2 m2 q2⟩
  |false=>exact Wx (k1 ρ' M1 G1 hx H1 r1 (du.grow x1 m1))⟩
end
noncomputable def ItM(P:Program)(w:World)(K:W.Frag)(ab:It)(ds:b!)(ck:bE!)(G1:Hp):Prop:=∀(i:Nat) (M':Mh) (G' H':Hp),Cv G1 G'->Cv G' H'->MR P w K M' G' H'->ck M'->
 vQ_/\vR_
abbrev WI:=Ag->Mh->(List D->(Mh->Prop)->Mh->Prop)->Prop
inductive tmI(P:Program)(w:World)(K:W.Frag)(own:k!)(fi:WI)(Z:St)(H:Hp)(R:gf_):Prop
 |mk (G:Hp) (ρ:Ag) (M:Mh) (T:List D->(Mh->Prop)->Mh->Prop) (st:ht_) (e:fi ρ M T) (k:∀ds ck M1 ab G1 H1,T ds ck M1->XM M G H M1 G1 H1->MR P w K M1 G1 H1->ItM P w K ab ds ck G1->R ab H1):tmI P w K own fi Z H R
structure MI(X:Cx)(own:k!)(tg iter:Expr)(fi:WI):Prop where
 ok:PI X tg iter (tmI X.prog X.w X.K own fi)
section
variable{X:Cx}{own bh jf:List Nat}{st:Stmt}{rest body:List Stmt}{e a b c tg o:Expr}{es:List Expr}{pos p2:Pos}{f fa fb fc fo:WE}{fs:WA}{fi:WI}{ft fu:WT}{q1 q2 q3:WS}{di:Ag->Option (List D)}
theorem c4f{wi:TI}(h:PI X tg e wi)(hw:∀Z G H R ρ M T,wJ X.prog X.w X.K own G H Z ρ M->fi ρ M T->(∀ds ck M1 ab G1 H1,T ds ck M1->XM M G H M1 G1 H1->MR X.prog X.w X.K M1 G1 H1->ItM X.prog X.w X.K ab ds ck G1->R ab H1)->wi Z H R):MI X own tg e fi:=
 ⟨λO s Z H R I ⟨G,ρ,M,T,st,e,k⟩=>h O s Z H R I (hw Z G H R ρ M T st e k)⟩
noncomputable def Qt(di:an!):WI:=λρ M T=>Ie (di ρ) λds=>T ds Q_ M
theorem ItD.m{K:W.Frag}{ab:It}{G1:Hp}(h:vU_):ItM P w K ab ds Q_ G1:=λi M' G' H' s1 s2 _ _=>h i G' H' s1 s2
theorem eX(h:DI X own tg e di):MI X own tg e (Qt di):=c4f h.ok λZ G H R ρ M T st e k=>by
 obtain⟨ds,e1,e2⟩:=Gc e;exact⟨G,ρ,ds,st.or,e1,λab G1 H1 x fh=>k ds _ M ab G1 H1 e2 (.ext x) pc! fh.m⟩
noncomputable def Em(f:WE):WI:=λρ M T=>f ρ M λd M1=>match d with
 |.lst xs=>T xs Q_ M1
 |.fn p=>(match M1 p with|some (.lst xs)=>T xs (λM=>M p=some L!) M1|_=>False)
 |_=>False
theorem Jm(h:ay_):MI X own tg a (Em fa):=c4f (a6o h.ok) λZ G H R ρ M T st e k=>⟨G,ρ,M,_,st,e,λd M1 v G1 H1 r1 x1 m1 q1=>by
 cases d<;>first|exact r1.elim|skip
 .obtain⟨p,vs,rfl,q,rr⟩:=De q1;exact⟨p,rfl,⟨vs,x1.sub.seq q⟩,k _ _ M1 _ G1 H1 r1 x1 m1 (zT q rr).m⟩
 .rename_i p;cases Ly q1;dsimp only at r1;split at r1
  .rename_i xs hM;obtain⟨_,vs,B,Y⟩:=m1.cell p _ hM;refine⟨p,rfl,⟨vs,Kw.of B⟩,k _ _ M1 _ G1 H1 r1 x1 m1 λi M' G' H' s1 s2 m' ck=>?_⟩;obtain⟨_,f9,h3,h4⟩:=m'.cell p _ ck;have q':Kw X.K H' p f9:=Kw.of h3;refine⟨ed!,λhi=>⟨f9,q',by rw[<-Ar h4,hi];exact BB _⟩⟩;obtain⟨v,g1,g2⟩:=Qa h4 hd;refine⟨⟨f9,v,q',g1⟩,g4!⟩;obtain⟨e1,e2⟩:=hy;subst e1;have:=e2 f9 q';rw[g1]at this;cases this;exact⟨G',jL!,g2⟩
  .exact r1.elim⟩
noncomputable def Kr(bnd:af_)(ck:bE!)(q:WS):List D->WS
 |[]=>λρ M R=>ck M/\R aG! M
 |d::ds=>λρ M R=>ck M/\Ie jN! λah=>q ah M λr M1=>match r with|.nx bg=>Kr bnd ck q ds bg M1 R|.rt d=>R bm_ M1
noncomputable def Fn(fi:WI)(bnd:af_)(q:WS):WS:=λρ M R=>fi ρ M λds ck M1=>Kr bnd ck q ds ρ M1 R
noncomputable def GDS(K:W.Frag)(own:k!)(g:TG)(bnd:af_):Prop:=∀{P:Program} {w:World} {x:V} {d:D} {Z:St} {M0 M:Mh} {G0 F0 G H:Hp} {ρ ah:Ag} {Q:ih_},Rs P w K own M0 G0 F0 M G H Z ρ->Bn K G d x->bnd d ρ=some ah->(∀dq,Rs P w K own M0 G0 F0 M G H dq ah->Q dq H)->g x Z H Q
theorem Hc{K:W.Frag}(i:Nat)(hi:bl_:=by decide):GDS K own eD_ (Dr i):=by intro P w x d Z M0 M G0 F0 G H ρ ah Q sr r e k;cases e;exact k _ (sr.set hi r)
noncomputable def a8e(i j:Nat):D->Ag->Option Ag:=λd ρ=>match d with|.tup [x,y]=>some ((ρ.set i gd!).set j (some y))|_=>none
theorem b6t{K:W.Frag}(i j:Nat)(hi:bl_:=by decide)(hj:j∉own:=by decide):GDS K own vU! (a8e i j):=by
 intro P w x d Z M0 M G0 F0 G H ρ ah Q sr r e k;unfold a8e at e;show"!7"
 .cases e;show"!W";show"!5";exact⟨p,[v1,v2],rfl,Dj sr.st.or.sub q,rfl,v1,[v2],rfl,v2,[],rfl,rfl,k _ ((sr.set hi r1).set hj r2)⟩
 .cases e
theorem Rs.base{K:W.Frag}{M0 M1:Mh}{G0 F0 G1 H1:Hp}{Z:St}{ρ:Ag}(s:pE!):Rs P w K own M1 G1 hG! M1 G1 H1 Z ρ:=
 ⟨s.st,⟨Cv.refl _,s.st.or.sub,dk_,λb o e _=>s.sr.ext.h b o e,dk_,λb h=>h⟩,λi hi p e=>s.sr.fr i hi p e⟩
theorem Rs.unx{K:W.Frag}{M0 M1 M':Mh}{G0 F0 G1 H1 G' H':Hp}{Z:St}{ρ:Ag}(s:pE!)(y:XM M1 G1 hG! M' G' H'):XM M0 G0 F0 M' G' H':=by
 refine⟨s.x.g.trans y.g,y.sub,bl!,y9!,bl!,λb h=>y.cells b (s.x.cells b h)⟩
 .rcases y.new b h with z|z
  .exact s.x.new b z
  .exact py_
 .refine y.keep b o ?_ ?_
  .unfold Lx;rw[y9_];exact s.x.keep b o e J
  .cases q:M1 b with
   |none=>rfl
   |some c=>
    rcases s.x.dom b ca! with z|z
    .exact absurd J z
    .rw[e]at z;cases z
 .rcases y.dom b h with z|z
  .exact s.x.dom b z
  .exact py_
theorem Rs.unbase{K:W.Frag}{M0 M1 M':Mh}{G0 F0 G1 H1 G' H':Hp}{Z hx:St}{ρ ρ':Ag}(s:pE!)(s':Rs P w K bh M1 G1 hG! M' G' H' hx ρ'):Rs P w K bh M0 G0 F0 M' G' H' hx ρ':=
 ⟨s'.st,s.unx s'.x,λi hi p e=>s.noF (s'.fr i hi p e)⟩
theorem Kl{g:TG}{bnd:af_}(hp:ge_)(hc:be!)(bd:pE_)(hg:lZ!)(mh:GDS X.K own g bnd)(J:zm_)
  (hs:c2!:=by intro _;rfl):MS X own own rT_ (Fn fi bnd q1):=⟨λM0 G0 F0 O s Z H E I ⟨G,ρ,M,R,sr,e,k1,k2⟩=>by
 have de:PSs X body (λE Z H=>∃A hb C,tmS X.prog X.w X.K A hb C own own q1 E Z H):=λO s Z H E I ⟨A,hb,C,h⟩=>J.ok A hb C O s Z H E I h;refine b3z hp hc bd.ok hg de hs O s Z H E I ⟨G,ρ,M,_,sr.st,e,λds ck M1 ab G1 H1 r1 x1 m1 fh=>?_⟩;have yh:=sr.grow x1 m1;refine⟨λn m hx H'=>n<=f_/\m=f_ - n/\∃G' ρ' M',Rs X.prog X.w X.K own M1 G1 hG! M' G' H' hx ρ'/\Kr bnd ck q1 nF! ρ' M' R,
  ⟨f_,CG _,rfl,G1,ρ,M1,yh.base,r1⟩,?_⟩
 rintro n m hx H' ⟨hn,rfl,G',ρ',M',du,e3⟩;have dw:ck M':=by
  cases hd:ds.drop n with
  |nil=>rw[hd]at e3;exact e3.1
  |cons _ _=>rw[hd]at e3;exact e3.1
 obtain⟨md,me⟩:=fh n M' G' H' du.x.g du.st.or.sub du.st.mr dw;by_cases am:n<f_
 .right;have hd:ds[n]?=some ds[n]:=by simp[am]
  rw[ES am]at e3;obtain⟨_,e3⟩:=e3;obtain⟨ah,e4,e3⟩:=Gc e3;obtain⟨go,yl⟩:=md _ hd;refine⟨go,λcy H2=>∃G2 bg M2,Rs X.prog X.w X.K own M1 G1 hG! M2 G2 H2 cy bg/\Kr bnd ck q1 (ds.drop cF_) bg M2 R,λcy H2 ⟨G2,bg,M2,B,h3⟩=>⟨f_ - cF_,t_,am,rfl,G2,bg,M2,B,h3⟩,jN_⟩;obtain⟨G2,x2,r2⟩:=yl v H2 hy;have yg:=du.grow kG! (du.st.mr.ext x2);exact mh yg r2 e4 λgh vn=>⟨M1,G1,Lx own Z H1,G2,ah,M',_,vn,e3,λse M4 G4 WW H4 r4 RH=>⟨G4,se,M4,RH,r4⟩,λd M4 v G4 H4 r4 x4 m4 q4=>k2 d M4 v G4 H4 r4 (yh.unx x4) m4 q4⟩
 .left;have ik:n=f_:=by omega
  refine oh!;rw[ik,HR]at e3;exact k1 ρ' M' G' hx H' e3.2 (yh.unbase du)⟩
noncomputable def rV(bnd:af_)(ck:bE!)(ft:WT)(fe:WE)(ρ:Ag):List D->Mh->yj_->Prop
 |[],M,R=>ck M/\R [] M
 |d::ds,M,R=>ck M/\Ie jN! λah=>ft ah M λb M1=>if b then fe ah M1 λy M2=>rV bnd ck ft fe ρ ds M2 λys M3=>R (y::ys) M3 else rV bnd ck ft fe ρ ds M1 R
noncomputable def Ea(nl:Nat)(ix:k!)(fi:WI)(bnd:af_)(ft:WT)(fe:WE):WE:=λρ M R=>fi ρ M λds ck M1=>f_<=big/\rV bnd ck ft fe nJ_ ds M1 λys M2=>R a6! M2
theorem a7z{K:W.Frag}{ab:It}{ds:b!}{ck:bE!}{M1:Mh}{G1 H1:Hp}{g:TG}{bnd:af_}{fe:WE}{jz:Ag}{q8:St}{Fin:cW!}{R:pa_}
  (J:f_<=big)(fh:ItM P w K ab ds ck G1)(hg:GD K g bnd)(er:wJ P w K [] G1 H1 q8 jz M1)(e:rV bnd ck ft fe jz ds M1 R)(k:∀je ys M' G' H',R je M'->XM M1 G1 H1 M' G' H'->MR P w K M' G' H'->Bb K G' je ys->je.length<=f_->Fin ys H'):
  a8i ab g (tmT P w K [] ft) (tmE P w K [] fe) Fin q8 H1:=by
 refine⟨λi m ys hx H'=>i<=f_/\m=f_ - i/\∃G' M' ws,XM M1 G1 H1 M' G' H'/\wJ P w K [] G' H' hx jz M'/\Bb K G' ws ys/\mW!<=i/\rV bnd ck ft fe jz (ds.drop i) M' λr M2=>R (ws++r) M2,
  ⟨f_,CG _,rfl,G1,M1,[],.refl er.or.sub,er,Bb.nil,CG _,e⟩,?_⟩
 rintro i m ys hx H' ⟨hi,rfl,G',M',ws,x,cf,aj,hw,e2⟩;refine vV!;have dw:ck M':=by
  cases hd:ds.drop i with
  |nil=>rw[hd]at e2;exact e2.1
  |cons _ _=>rw[hd]at e2;exact e2.1
 obtain⟨md,me⟩:=fh i M' G' H' x.g cf.or.sub cf.mr dw;by_cases am:i<f_
 .right;have hd:ds[i]?=some ds[i]:=by simp[am]
  rw[ES am]at e2;obtain⟨_,e2⟩:=e2;obtain⟨ah,e1,e2⟩:=Gc e2;obtain⟨go,yl⟩:=md _ hd;refine⟨go,jN_⟩;obtain⟨G2,x2,r2⟩:=yl v H2 hy;have cb:=cf.grow kG! (cf.mr.ext x2);have RI:XM M1 G1 H1 M' G2 H2:=x.trans kG! cf.mr;refine hg cb.or r2 e1 λdq l9 q9=>⟨G2,ah,M',_,zr_,e2,λb M3 G3 H3 r3 x3 m3=>?_⟩;have j0:=(show wJ P w K [] G2 H2 dq ah M' from zr_).grow x3 m3;have ky:=RI.trans x3 cb.mr;cases b with
  |true=>
   refine Ww ⟨G3,ah,M3,_,j0,r3,λy M4 u G4 H4 r4 x4 m4 q4=>⟨f_ - ba!,t_,am,rfl,G4,M4,ws++[y],ky.trans x4 m3,⟨(j0.grow x4 m4).or.le q9,m4,am_⟩,?_,?_,?_⟩⟩
   .exact Gb vV_ (Bb.cons q4 Bb.nil)
   .rw[AY,DN];omega
   .have e5:(λr M2=>R (ws++[y]++r) M2)=λr M2=>R (ws++y::r) M2:=by
     funext r M2;rw[CN];rfl
    rw[e5];exact r4
  |false=>
   exact Wx ⟨f_ - ba!,t_,am,rfl,G3,M3,ws,ky,⟨j0.or.le q9,m3,am_⟩,(n8_).mono x3.g,t_,r3⟩
 .left;have ik:i=f_:=by omega
  refine oh!;rw[ik,HR]at e2;have this:R (ws++[]) M':=e2.2;rw[BL]at this;exact k ws ys M' G' H' this x cf.mr aj a!
theorem Qw{scope:Scope}{NL:p!}{ix:k!}{g:TG}{bnd:af_}{fe:WE}
  (ce:da!)(b9:da_)(jy:∀y∈cb_,y.2=.local->scope.names.lookup y.1=some .local)
  (g9:gR!)(cap:c9_)(mf:jA_)(calm:be!)(bd:pE_)
  (hg:gR_)(mh:n9!)(hi:zs_)(he:zt!)
  (hs:c2!:=by intro _;rfl):
  ME X own gO! zt_:=
 Ju vX_ λZ G H Q ρ M R st e k=>⟨G,ρ,M,_,st,e,λds ck M1 ab G1 H1 r1 x1 m1 fh=>by
  obtain⟨J,r1⟩:=r1;have ow:=st.grow x1 m1;refine a7z J fh mh zu! r1 λje ys M' G' H' r x m q _ p hp=>?_;exact k _ M' _ _ _ r ((x1.trans x m1).trans (.ext g5_) m) (m.ext g5_) (Fi n9_ q)⟩
theorem zD:iQ X [] (tmT X.prog X.w X.K [] λρ M R=>R true M):=λO s Z H Q I ⟨G,ρ,M,R,st,e,k⟩=>yJ O s Z H Q I (k true M G H e pc_ st.mr)
theorem gK(h:MT X [] c ft):iQ X [c] zs!:=yI h.ok
abbrev WF:=List D->Mh->yj!->Prop
noncomputable def spM(P:Program)(w:World)(K:W.Frag)(n:Nat)(g:WF):Sp:=λvs H Q _=>bz!=n/\∃G ds M R,Cv G H/\MR P w K M G H/\Bb K G ds vs/\g ds M R/\∀d M' v G' H',R d M'->XM M G H M' G' H'->MR P w K M' G' H'->Bn K G' d v->Q v H'
noncomputable def Ve(P:Program)(w:World)(K:W.Frag)(mg:A!)(base:Heap)(k:Nat)(x:Str)(ps:p!)(g:WF):Prop:=
 ∃σ fd,Ks P w K mg base iR k σ fd ps pF!/\Jx K fd ps []/\mg x=some bS!/\W.keepIn K bS!=true
noncomputable def gl(g:X!):WF:=λds M R=>Ie (g ds) λd=>R d M
noncomputable def Ay(n:Nat)(g:WF)(fs:WA):WE:=λρ M R=>fs ρ M λds M1=>f_=n/\g ds M1 R
theorem Bf{k:Nat}{ps:p!}{g:WF}{x:Str}(F:Ve X.prog X.w X.K X.mg X.base k x ps g)(hr:b7_)(hg:R_)(ha:hA!)
  (bc:G!:=by decide)(he:al_:=by rfl)(ax:aR_:=by rfl):
  ME X own bh! (Ay ps.length g fs):=by
 obtain⟨σ,fd,B,Y,h3,h4⟩:=F;refine Ju (a6t B hr hg h3 h4 Y .nil lK ha.ok bc he ax) λZ G H Q ρ M R st e' k=>⟨G,ρ,M,_,st,e',λds M1 vs G1 H1 r1 x1 m1 q1=>?_⟩;show spM X.prog X.w X.K ps.length g (vs++[]) H1 Q E0;rw[BL];exact⟨by rw[<-Ar q1];exact r1.1,G1,ds,M1,R,x1.sub,m1,q1,r1.2,yp!⟩
noncomputable def Hl(P:Program)(w:World)(K:W.Frag)(mg:A!)(base:Heap)(k:Nat)(C:Addr)(m:Str)(ps:p!)(g:WF):Prop:=
 Cls K C/\∃σ fd,b1g K C m σ/\Ks P w K mg base iR k σ fd ps pF!/\Jx K fd ps []
noncomputable def Gg(C:Addr)(m:Str)(M:Mh)(d:D):Prop:=match d with
 |.fn p=>(match M p with|some (.obj C' fs)=>C'=C/\fs.lookup m=none|_=>False)
 |_=>False
theorem zU{K:W.Frag}{M:Mh}{G H:Hp}(mr:cl_)(r:cD!)(h:kR!):∃p dx vs,d=.fn p/\v=.ref p/\H p=some yf!/\vs.lookup m=none:=by
 unfold Gg at h;split at h
 .rename_i p;cases Ly r;split at h
  .rename_i C' fs hM;obtain⟨rfl,hl⟩:=h;obtain⟨_,dx,vs,B,Y⟩:=mr.cell p _ hM;exact⟨p,dx,vs,rfl,rfl,B,a0d Y hl⟩
  .exact h.elim
 .exact h.elim
noncomputable def Bx(C:Addr)(m:Str)(n:Nat)(g:WF)(fo:WE)(fs:WA):WE:=λρ M R=>fo ρ M λd M1=>Gg C m M1 d/\fs ρ M1 λds M2=>f_+1=n/\g d7! M2 R
theorem Dh{k:Nat}{ps:p!}{g:WF}{ag:Pos}{pl:dO_}(F:zu_)(hr:b7_)(ho:cK!)(ha:hA!)
  (bx:al_:=by rfl)(ax:aR_:=by rfl)
  (ht:eval iO! X.env=(do
   let ov <-eval o X.env
   standAt gv_
   let(f,first) <-holding [ov] gw!
   callWith pos f first s9_ eP_):=by rfl):ME X own iO! (Bx C m ps.length g fo fs):=by
 obtain⟨cl,σ,fd,B,Y,h3⟩:=F;refine Ju (c0r (pl:=pl) ho.ok cl B Y hr h3 .nil lK ha.ok bx ax ht) λZ G H Q ρ M R st e' k=>zv!;show"!p";refine⟨p,dx,vs,rfl,hH,hl,G1,ρ,M1,_,kv!,r1,λds M2 us G2 H2 r2 x2 m2 q2=>?_⟩;show spM X.prog X.w X.K ps.length g (.ref p::(us++[])) H2 Q E0;rw[BL];exact⟨by rw[AR,<-Ar q2];exact r2.1,G2,.fn p::ds,M2,R,x2.sub,m2,Bb.cons Bn.fn q2,r2.2,λd M3 v G3 H3 r3 x3 m3 q3=>k d M3 v G3 H3 r3 pt_ m3 q3⟩
theorem zE{k:Nat}{ps:p!}{g:WF}{ag:Pos}{pl:dO_}(F:zu_)(hr:b7_)(ho:cK!)
  (ht:eval iO_ X.env=(do
   let ov <-eval o X.env
   standAt gv_
   let(f,first) <-holding [ov] gw!
   callWith pos f first mK! eP_):=by rfl):ME X own iO_ (Bx C m ps.length g fo Ak):=by
 obtain⟨cl,σ,fd,B,Y,h3⟩:=F;refine Ju (b4m (pl:=pl) ho.ok cl B Y hr h3 .nil lK ht) λZ G H Q ρ M R st e' k=>zv!;show"!p";refine⟨p,dx,vs,rfl,hH,hl,?_⟩;show spM X.prog X.w X.K ps.length g gF_ H1 Q E0;have r2:[].length+1=S_/\g (D.fn p::[]) M1 R:=r1;exact⟨r2.1,G1,[.fn p],M1,R,x1.sub,m1,Bb.cons Bn.fn Bb.nil,r2.2,λd M3 v G3 H3 r3 x3 m3 q3=>k d M3 v G3 H3 r3 (x1.trans x3 m1) m3 q3⟩
noncomputable def b1f(P:Program)(w:World)(K:W.Frag)(mg:A!)(base:Heap)(k:Nat)(x:Str)(C:Addr)(ps:p!)(g:WF):Prop:=
 mg x=some at!/\∃σ fd,Mk K C σ/\Ks P w K mg base iR k σ fd ps pF!/\Jx K fd ps []
noncomputable def Np(C:Addr)(n:Nat)(g:WF)(fs:WA):WE:=λρ M R=>fs ρ M λds M1=>f_+1=n/\∀p,M1 p=none->g (.fn p::ds) (Cg M1 p kR_) λd M2=>d=.non/\R D_ M2
theorem b5s{K:W.Frag}{M1:Mh}{G1 H1:Hp}(sub:Cv G1 H1)(m1:yh!)(L:H1 x=none)(jj:H1 dx=none)(ne:dx≠x):
  XM M1 G1 H1 (Cg M1 x kR_) G1 mI_/\MR P w K (Cg M1 x kR_) G1 mI_:=by
 have ao:∀b o,H1 b=some o->upd s5! x mI! b=some o:=λb o e=>by rw[Bt (Ej e L),Bt (Ej e jj)];exact e
 refine⟨⟨Cv.refl G1,λb o e=>ao b o (sub b o e),dk_,λb o e _=>ao b o e,bl!,bl!⟩,⟨λb q e=>?_⟩⟩
 .by_cases J:b=x
  .subst J;exact .inr L
  .rw[bp_]at h;exact .inl h
 .by_cases J:b=x
  .subst J;rw[mup_same];simp
  .rw[bp_];exact h
 .by_cases J:b=x
  .show"#'";exact⟨sub.free L,dx,[],Dq,.nil⟩
  .rw[bp_]at e;obtain⟨B,Y⟩:=m1.cell b q e;refine⟨B,Y.mono (Cv.refl G1) ?_⟩;cases hq:H1 b with
   |none=>exact absurd hq Y.has
   |some o=>exact ao b o hq
theorem c1i{k:Nat}{x:Str}{ps:p!}{g:WF}(F:zx!)(hr:gx_)(hg:R_)(ha:hA!)
  (bc:G!:=by decide)(he:al_:=by rfl)(ax:aR_:=by rfl):ME X own bh! (Np C ps.length g fs):=by
 obtain⟨hm,σ,fd,B,Y,h3⟩:=F;refine Ju (c0s B Y hr hg hm h3 .nil lK ha.ok bc he ax) λZ G H Q ρ M R st e' k=>⟨G,ρ,M,_,st,e',λds M1 vs G1 H1 r1 x1 m1 q1=>λy dx hy jj ne=>?_⟩;obtain⟨z1,z2⟩:=b5s (C:=C) x1.sub m1 hy jj ne;rw[BL];exact⟨by rw[AR,<-Ar q1];exact r1.1,G1,.fn y::ds,_,_,z1.sub,z2,Bb.cons Bn.fn q1,r1.2 y (m1.nocell hy),λd M2 v G2 H2 r2 x2 m2 q2=>by
  obtain⟨rfl,r2⟩:=r2;exact⟨Iz q2,k _ M2 _ G2 H2 r2 ((x1.trans z1 m1).trans x2 z2) m2 Bn.fn⟩⟩
theorem Wj{k:Nat}{x:Str}{ps:p!}{g:WF}(F:zx!)(hr:gx_)(hg:R_)
  (bc:G!:=by decide):ME X own ti! (Np C ps.length g Ak):=by
 obtain⟨hm,σ,fd,B,Y,h3⟩:=F;refine Ju (b4n B Y hr hg hm h3 .nil lK bc) λZ G H Q ρ M R st e' k=>λy dx hy jj ne=>?_;obtain⟨z1,z2⟩:=b5s (C:=C) st.or.sub st.mr hy jj ne;have r1:[].length+1=S_/\∀p,M p=none->g (D.fn p::[]) (Cg M p kR_) λd M2=>d=.non/\R D_ M2:=e';exact⟨r1.1,G,[.fn y],_,_,z1.sub,z2,Bb.cons Bn.fn Bb.nil,r1.2 y (st.mr.nocell hy),λd M2 v G2 H2 r2 x2 m2 q2=>by
  obtain⟨rfl,r2⟩:=r2;exact⟨Iz q2,k _ M2 _ G2 H2 r2 (z1.trans x2 z2) m2 Bn.fn⟩⟩
noncomputable def Ex(N:p!)(n:Nat)(q:WS):WF:=λds M R=>f_=n/\q g9_ M λr M'=>match r with|.rt d=>R d M'|.nx _=>R .non M'
end
theorem jH{K:W.Frag}{mg:A!}{st:Stmt}{ps:p!}{k:Nat}{h2:k!}{q:WS}
  (F:wg_)(S:dZ!)
  (J:∀(af:Value) (A:Around) (outer:aq_) (s:Shared) (H:Hp) (E:XK),Ax k oh_->MSs (oi!).nox [] h2 bP_ q):
  Ks P w K mg base iR S! σ fd ps (spM P w K ps.length kS!):=by
 refine wh!;obtain⟨hl,G,ds,M,R,sub,m,r,e,kk⟩:=h;refine⟨_,(wh_).ok M G H,?_⟩;have er:=wW (N:=N) sub r;exact⟨G,_,M,_,⟨⟨er,m,am_⟩,.refl sub,am_⟩,e.2,λρ' M' G' hx H' r sr=>kk _ M' _ G' H' r sr.x sr.st.mr Bn.non,λd M' v G' H' r x m q=>kk d M' v G' H' r x m q⟩
section
variable{P:Program}{w:World}{A:Around}{E:Value->Shared->Prop}{s:Shared}{d it:Addr}{es:List DictEntry}{ep i:Nat}
theorem fV.at{h h':Heap}(D:fV h d es ep)(e:∀o,h.get? d=some o->h'.get? d=some o):fV h' d es ep:=let⟨o,ho,r⟩:=D;⟨o,e o ho,r⟩
theorem b6j{Q:p_}(hd:zx_)(D:pH_)
  (h:Q c1_ {s with heap:=s.heap.push {cls:=.type "dict_keyiterator",data:=.fields #[.ref d,.int 0 0,.int es.length 0,.int ep 0]}}):wpAny J! A (pyIter (.ref d)) Q E s:=by
 have hT:=D.typeIs;obtain⟨o,ho,hc,LX⟩:=id D;refine wpAny_pyIter_slot hT PySem.F.slot_dict_iter (BX PySem.F.slot_dict_iter hT PySem.F.entry_dict_iter ?_ (PySem.F.args_dict_iter_1 _));unfold Builtin.«dict.__iter__» Builtin.Dict.dictSlotNone;refine AA pj!;show wpAny J! A.in1 (Builtin.Dict.showsAll d>>=_) _ _ s;unfold Builtin.Dict.showsAll;rw[AH (by rw[hd];exact BC)];refine AA (AC (AA (EJ ho LX (AA (EK ho LX (AA (DC (AC ⟨_,rfl,"dict_keyiterator",_,os!,DB.lookup,?_⟩))))))));simpa[rawInt]using h
theorem yW{Q:fl!}{e:DictEntry}(bd:zz!)(D:pH_)(L:es[i]?=some e)
  (h:∀h',h'.IsKeyIter it d ba! es.length ep->Heap.SameBut it s.heap h'->Q (some e.key) {s with heap:=h'}):wpAny J! A im! Q E s:=by
 show"!X";obtain⟨am,lg⟩:=AZ.mp L;show"#1"
 first|refine AA (FD hT kS_)|refine AA (GH hT kS_)
 show"!V";refine AA zC!;rw[T!];refine AC ?_;simp only[zC_,BW,FN,EN,L];refine AA ?_
 first|refine AA (FD hT zD_)|refine AA (GH hT zD_)
 show wpAny J! A.in1 (setField b2_ 1 zE!>>=_) _ _ s;have lh:(s.heap.update it zF!).IsKeyIter it d ba! es.length ep:=
  ⟨_,FU _ ho (Obj.isFreed_of_fields (HN hd _)),(wM!).trans hc,by rw[HN hd];simp[rawInt]⟩
 refine AA (JC ho hd d_ (AA (CC (AA (IQ (s:={s with heap:=s.heap.update it zF!}) lh.typeIs ?_)))));exact AC (AC ⟨_,rfl,AC (h _ lh eg!)⟩)
theorem a7t{Q:fl!}(hh:eT_)(bd:zz!)(D:pH_)(L:ag!<=i)
  (h:∀h',Heap.ExtBut it s.heap h'->Q none {s with heap:=h'}):wpAny J! A im! Q E s:=by
 show"!X";show"#1"
 first|refine AA (FD hT kS_)|refine AA (GH hT kS_)
 show"!V";refine AA zC!;rw[T!];refine AC ?_;simp only[zC_,BW,FN,EN,CJ L];refine AA ?_
 first|refine AA (FD hT ad_)|refine AA (GH hT ad_)
 show wpAny J! A.in1 (setField b2_ 0 .none>>=_) _ _ s;refine AA (JC ho hd d_ ?_);show wpAny J! A.in1 wM_ _ _ _;refine AA ?_;simp only[newExc,newTuple];refine AA (DC (AA (m:=wN!) (wpAny_of_eq (a:=cP_) wN_ (DC ?_ j5!))) j5!);simp only[raiseNew];refine AA wO!;rw[wO_];refine AA wP!;refine AA (wpAny_isInstance (T:=xc!) (b:=true) (show Shared.TypeIs _ _ _ from os!) isSubtype_stop ?_);exact AC (h _ wQ_)
theorem a8l(hh:eT_)(I d:Addr)(b7:d≠I)(es:aa_)(ep:Nat):Walks P w A I [I,d] [I] es.length pJ! (λi h=>h.IsKeyIter I d i es.length ep/\fV h d es ep) where
 sub:=λb J=>by simp at J;simp[J]
 frame:=λ_ _ _ st hk=>⟨st.1.at λo e=>hk I d_ o e,st.2.at λo e=>hk d d_ o e⟩
 item:=λi s Q E hi st hQ=>by
  refine yW st.1 st.2 (BA hi) λh' lh br=>?_;exact hQ _ h' s.toks ⟨_,BA hi,rfl⟩ ⟨lh,st.2.at λo e=>(br.2 d b7).trans e⟩ λb o J e=>(br.2 b gi!).trans e
 done:=λs Q E st hQ=>a7t hh st.1 st.2 x_ λh' cg=>hQ h' s.toks λb o J e=>cg b o gi! e
 self:=λ_ _ _ _ st hQ=>wpAny_pyIter_keyiter st.1 hQ
theorem c8d{es au:aa_}{a9:Nat}(D:fV h d es ep)(D':fV h d au a9):es=au/\ep=a9:=by
 obtain⟨o,B,_,Y⟩:=D;obtain⟨o',h3,_,h4⟩:=D';rw[B]at h3;cases h3;rw[Y]at h4;injection h4 with h5 h6
 exact⟨by simpa using congrArg Array.toList h5,h6⟩
noncomputable def Ite(d:Addr)(ep n:Nat):It:=⟨λi H=>∃es e x,H d=some du!/\ag!=n/\es[i]?=some e/\Ds x e.key,λi H x H'=>H'=H/\∀es,H d=some du!->∃e,es[i]?=some e/\Ds x e.key,λi H=>∃es,H d=some du!/\ag!=n/\n<=i⟩
theorem vV{P:Program}{w:World}{H:Hp}{es:aa_}(hok:bs_)(e:H d=some du!):fV h d es ep:=by obtain⟨⟨h3,_⟩,_⟩:=(show Ke P w H h d du! from hok d _ e);exact h3
theorem b2b{P:Program}{w:World}{K:W.Frag}{tg:Expr}{n:Nat}(d it:Addr):wH P w K tg (Ite d ep n) [it] it (λi h=>h.IsKeyIter it d i n ep) where
 mem:=by simp
 obj:=λi h st b J=>by
  have e:b=it:=by simpa using J
  subst e;show"##"
 keep:=λi h h' st k=>st.at λo e=>k it d_ o e
 item:=by
  intro X hP hw hK hc i O s Z H E I hf st hg;subst hP hw hK;obtain⟨es,e,x,hH,hl,L,rx⟩:=hg;have D:=vV I.hok hH;obtain⟨f0,f1,f2,f3,f4,f5⟩:=hf it d_;subst hl;refine yW st D L λh' h1 sb=>?_;have I1:Inv X O Z H {s with heap:=h'}:=I.turned (t':=s.toks) rJ! f0 f1 f3 f4 f5;obtain⟨o,eo,c,dd⟩:=id h1;exact⟨_,rfl,b6r (s:=l6_) eo c dd c! ⟨x,H,I1,rx,⟨rfl,λau hy=>by
   obtain⟨rfl,_⟩:=c8d D (vV I.hok hy);exact⟨e,L,rx⟩⟩,h1,λb J=>(hf b J).1⟩⟩
 done:=by
  show"!0";obtain⟨es,hH,hl,L⟩:=hg;show"!2";subst hl;exact a7t bJ_ st (vV I.hok hH) L λh' eb=>l7_
 self:=λ_ _ _ _ _ st h=>wpAny_pyIter_keyiter st h
end
section
variable{X:Cx}{own:List Nat}{a tg:Expr}{fa:WE}
noncomputable def aS(f:WE):WI:=λρ M T=>f ρ M λd M1=>Ie hB! λq=>T hG_ (λM=>M q.1=some pq_) M1
theorem b5o(h:ay_):MI X own tg a (aS fa):=⟨by
 intro O s Z H R I ⟨G,ρ,M,T,st,e,k⟩;refine h.run I st e λd M1 v G1 H1 u s1 r1 x1 m1 q1 I1 rx=>?_;obtain⟨⟨p,kvs,ep⟩,e1,r2⟩:=Gc r1;obtain⟨rfl,rfl,hM⟩:=Fb q1 e1;cases rx;obtain⟨es,B,Y,h3,h4,h5,h6⟩:=Jf I1 m1 x1.sub hM;have al:az!=ag!:=FC Y.1;refine b6j h4 h3 ⟨D!,[D!],_,Ite p ep ag!,H1,rfl,l9_,b2b p _,eG!,bL!,k _ _ M1 _ G1 H1 r2 x1 m1 λi M' G' H' s2 s3 m' ck=>?_⟩
 .have e:b=D!:=by simpa using J
  show"!m"
 .obtain⟨_,au,g1,g2⟩:=m'.cell p _ ck;have WX:az!=au.length:=FC g2.1;refine⟨ed!,λhi=>⟨au,g1,t_,by rw[hi,AW];show ag!<=az!;omega⟩⟩;rw[BS]at hd;obtain⟨q,hq,rfl⟩:=AL.mp hd;obtain⟨e',cg,⟨v,r1,rv⟩,_,_⟩:=Mw g2.1 hq;refine⟨⟨au,e',v,g1,t_,cg,rv⟩,g4!⟩;obtain⟨z1,z2⟩:=hy;subst z1;obtain⟨e2,vg,rx⟩:=z2 au g1;rw[cg]at vg;cases vg;rw[rx.inj rv];exact⟨G',Ev.refl s3,r1⟩⟩
end
section
variable{X:Cx}{O:List (Addr×Obj)}{Z:St}{H:Hp}{s:Shared}
theorem Sx{Y:Heap}{t':Nat}{wr:aq!}(I:d!)(hf:∀b∈wr,Qs X O H b)(kp:∀c o,c∉wr->s.heap.get? c=some o->Y.get? c=some o):Inv X O Z H {s with heap:=Y,toks:=t'}:=by
 refine I.step (g':=s.gens) (d':=s.drawn) (t':=t') (ch:=wr) hh! oB! oB_ h5! oC! h5_ h6! oC_ h6_ hh_ I.bare
 .obtain⟨f0,f1,f2,f3,f4,f5⟩:=hf c hc;exact⟨f3,f1,f4,f5⟩
 .obtain⟨o,es,ep,ho,r⟩:=hm;exact⟨o,es,ep,kp _ o (λz=>(hf _ z).2.1 rfl) ho,r⟩
 .refine(oD!).stay oD_ oE! λ_ _ e'=>e';have hn:=(hf d hm).1;rcases hd with rfl|hd
  .rw[hn]at e;cases e
  .rw[hn]at hd;cases hd
theorem c5c{s0:Shared}{xs:l_}{us:h!}(I:Inv X O Z H s0)(I1:d!)(hT:zI_<=T)(eT:s.heap.IsTuple T cA_)(rv:fQ_)(hz:k_<=sizeLine):Inv X O Z (upd H T bc!) s:=by
 have rm:H T=none:=I.hok.fresh hT;have ne:∀c o,H c=some o->c≠T:=λc o e=>Ej e rm;refine Inv.step (g':=s.gens) (d':=s.drawn) (t':=s.toks) (h':=s.heap) (ch:=[T]) I1 hh! xl! xl_ xm! xm_
  (xn!) xn_ xo_ nq_ hh_ I1.bare
 .have e:c=T:=by simpa using hc
  subst e;obtain⟨_,g1,_,g3,g4,g5⟩:=I.fpOk hT rm;exact⟨g3,g1,g4,g5⟩
 .rw[nr!];exact n
 .by_cases J:c=T
  .show"!x";exact⟨hz,us,rv,eT⟩
  .rw[Bt J]at e;exact(xp!).stay nr_ xp_ λd xs q=>by rw[oG!];exact q
end
noncomputable def Itn(x:Str):It:=⟨wz!,λi H v H'=>∃T c,v=.ref T/\H T=none/\x.cps[i]?=some c/\H'=upd H T (.tup [bI!,gE!]),wz_⟩
theorem a1x{K:W.Frag}{jh:bH_}{n1:Nat}{tp:Pos}{x:Str}{St':dI!}(ph:e≠it)(hd:wB!)
  (D:∀A':Around,oq!=none->Draws P w A' it [it] x.cps.size zJ! St'):
  wH P w K fl_ (Itn x) [e,it] e (λi h=>i<=fj_/\(∃ao,IsEnum h e it i ao)/\St' i h) where
 mem:=by simp
 obj:=λi h st b J=>by
  simp only[AD,BQ,DK]at J;obtain⟨_,⟨ao,s1⟩,s2⟩:=st;rcases J with rfl|rfl
  .exact⟨_,s1,jt_⟩
  .exact hd i h s2
 keep:=λi h h' st k=>by
  have W:=WalksT.enumerateD (A:=callerA) (D callerA.in1 rfl) e ph pL! d_;exact⟨st.1,W.frame i h h' st.2 λb J o q=>k b gi! o q⟩
 item:=by
  intro X hP hw hK hc i O s Z H E I hf st hg;subst hP hw hK;have hh:=I.ok.hd hc;have W:=WalksT.enumerateD (A:=X.A) zJ_ e ph pL! d_;refine W.item i s _ _ hg st.2 λT xh h' tk hP hT RJ hm kp=>⟨_,rfl,W.go jh n1 tp i T _ _ _ hm λY bf LY=>?_⟩;obtain⟨t,y,⟨c,u,ju,rfl⟩,rfl⟩:=hP;have RK:∀b∈[e,it],Qs X O H b:=hf;have I1:Inv X O Z H {s with heap:=Y,toks:=tk}:=Sx I RK λc o hc eo=>LY c o hc (kp c o hc eo);have LZ:T∉[e,it]:=W.apart i T _ hm;have eT:Y.IsTuple T #[.int i t,.str am! u]:=by
   obtain⟨o,eo,r⟩:=RJ;exact⟨o,LY T o LZ eo,r⟩
  have I2:=c5c (us:=[.int i t,.str am! u]) (xs:=[bI!,gE!]) I I1 hT eT (.cons nk! (.cons ⟨u,rfl⟩ .nil)) (by show 2<=sizeLine;rw[CI];decide);refine⟨.ref T,_,I2,rfl,⟨T,c,rfl,I.hok.fresh hT,ju,rfl⟩,⟨hg,bf⟩,bL!⟩;rw[Bt (λz:b=T=>LZ (by rw[<-z];exact J))];exact(hf b J).1
 done:=by
  show"!0";have hh:=I.ok.hd hc;have W:=WalksT.enumerateD (A:=X.A) zJ_ e ph pL! d_;show"#D";exact W.done s _ _ st.2 λh' tk kp=>⟨rfl,Sx I hf kp⟩
 self:=λA i s Q E st h=>by
  obtain⟨_,⟨ao,s1⟩,_⟩:=st;exact wpAny_pyIter_enum s1 h
section
variable{X:Cx}{own:List Nat}{a:Expr}{jh:List Expr}{n1:Nat}{tp p pos:Pos}{fa:Ag->Option D}
noncomputable def vL(f:e!):Ag->Option aL_:=λρ=>(aj!).bind λd=>match d with|.str x=>some (x.cps.toList.zipIdx.map λq=>.tup zL!)|_=>none
theorem b7m(hg:Gl X "enumerate")(hm:X.mg "enumerate"=none)(h:W_)(hs:starEach [a] X.env=dK_::starEach [] X.env:=by rfl)(ax:(mK!).any a_=false:=by rfl):
  DI X own fl_ (.Call (.Name "enumerate" p) [a] [] pos) (vL fa):=⟨by
 intro O s Z H R I ⟨G,ρ,ds,er,e,k⟩;obtain⟨d,e1,e2⟩:=AB.mp e;cases d<;>first|(cases e2;done)|skip
 rename_i x;cases e2;refine Call_ (Wm I hg hm boot_enumerate (EC (Gq (Hq h.ok Mx hs pos O s Z H (λvs H1=>∃v G1,vs=[v]/\Ev G H G1 H1/\Bn X.K G1 dE_ v) I ⟨G,ρ,_,er,e1,λv G1 H1 x1 r1=>⟨v,G1,rfl,x1,r1⟩⟩) λus s1 ⟨vs,H1,I1,r1,v,G1,q1,x1,rr⟩=>?_) hs ax));subst q1;cases Du rr;obtain⟨u,rfl,t,rfl⟩:=aU r1;refine call_enumerate_str λh' he bd hsz hk=>?_;refine wpAny_pyIter_enum he ?_;have I2:Inv X O Z H1 {s1 with heap:=h',toks:=s1.toks}:=I1.kept (t':=s1.toks) hk;have ml:∀b∈[D!+1,D!],D!<=b:=λb J=>by
  simp only[AD,BQ,DK]at J;rcases J with rfl|rfl<;>omega
 have fin:∀{St':dI!},St' 0 h'->(∀i h,St' i h->∃o,h.get? D!=some o/\∀v,o.data≠.cell v)->(∀A':Around,oq!=none->Draws X.prog X.w A' s1.heap.objs.size [D!] x.cps.size zJ! St')->
   PIE X O Z fl_ R (.ref (D!+1)) {s1 with heap:=h'}:=λ{St'} h0 hd D=>by
  refine⟨_,_,_,Itn x,H1,rfl,I2,a1x (Nat.succ_ne_self _) hd D,⟨CG _,⟨_,he⟩,h0⟩,λb J=>I1.fpOk (ml b J) (I1.hok.fresh (ml b J)),k _ G1 H1 x1 ?_⟩;intro i G' H' g1 g2;refine⟨ed!,λhi=>by rw[AW,List.length_zipIdx,CH]at hi;exact GX hi.symm⟩;rw[BS,List.getElem?_zipIdx]at hd;obtain⟨q,hq,rfl⟩:=AL.mp hd;obtain⟨c,hc,rfl⟩:=AL.mp hq;rw[EQ]at hc;refine wA_;obtain⟨T,c',rfl,hT,bp,rfl⟩:=hy;rw[hc]at bp;cases bp;refine⟨_,Ev.laid g2 hT,Ll (g2.free hT) (Bb.cons ?_ (Bb.cons Bn.str Bb.nil))⟩;rw[JE];exact Bn.int
 cases ha:x.cps.all (·<128)
 .have lh:h'.IsStrIter s1.heap.objs.size "str_iterator" x t 0:=by simpa[strIterType,ha]using bd
  exact fin (St':=λi h=>h.IsStrIter s1.heap.objs.size "str_iterator" x t i) lh zN! λA' hh=>Draws.strWide hh _ x t
 .have lh:h'.IsStrIter s1.heap.objs.size "str_ascii_iterator" x t 0:=by simpa[strIterType,ha]using bd
  exact fin (St':=λi h=>h.IsStrIter s1.heap.objs.size "str_ascii_iterator" x t i) lh zN! λA' hh=>Draws.strAscii hh _ x t⟩
noncomputable def sZ(a:Int)(n:Nat):List D:=(n7!).map λi=>.int (a+(i:Nat))
noncomputable def vK(f g:e!):Ag->Option aL_:=λρ=>(aj!).bind λx=>(g ρ).bind λy=>match x,y with|.int i,.int j=>if -1000<=i/\i<=100000/\-1000<=j/\j<=100000 then some (sZ i (j - i).toNat)else none|_,_=>none
end
end DL
namespace HT
open PySem PySem.Spec PyProof.Rows
theorem b2z(A:Around)(s:Shared)(a:Int)(t:Tok)(c:Int)(u:Tok)(prog:Program)(w:World)(E:p_)(Q:p_)(h:Q (.bool (decide (c<a))) s):
  wpAny n_ A (richCompare .Gt gB! mV!) Q E s:=
 (PyProof.Rows.gt_int h:wpAny n_ A (compareOp .Gt gB! mV!) Q E s)
section
open PySem.SeqAt
open PySem.AutoSeq1 (wpAny_loadPart')
open PySem.MeetsSeq PySem.MeetsSeq2 PySem.MeetsSeq3
theorem oC(l b:Addr)(items jk:ab_)(n n2:Nat)(dd km:a5!)(sl ja:b8!)(ns ms:A_)(hi:zN_)(hj:zO_):
  Meets (Builtin.«tuple.__gt__» ⟨[.ref l,.ref b],[]⟩)
   (λ_ R s=>s.heap.get? l=some {cls:=.type "tuple",dict:=dd,data:=.seq items n,slots:=sl}/\s.heap.get? b=some {cls:=.type "tuple",dict:=km,data:=.seq jk n2,slots:=ja}/\
    R (.ok (.ret pN!)) s):=
 .of_wp λprog w A R s h=>by
  obtain⟨hp,g,d,tk,os⟩:=s;obtain⟨hl,J,h⟩:=h;have f2:=AutoSeq1.sub_tuple_tuple;have z1:c5_=c2_:=by rw[<-hi.length];simp
  have z2:jk.size=kT_:=by rw[<-hj.length];simp
  wp_walk using IN hl,IN J,IF _ (λrest b s'=>b.1=none/\s'=hg!/\∃(vs ws:h!) (pi pj:A_),rest=vs.zip ws/\
   IntsAre vs pi/\IntsAre ws pj/\pi.length+jk.size=pj.length+c5_/\R (.ok (.ret (.bool (lexLt pj pi)))) hg!) _
  case turn=>
   rintro⟨y,x⟩ rest b s' ⟨de,rfl,vs,ws,pi,pj,hz,yi,vo,al,hR⟩;cases yi with
   |nil=>rw[List.zip_nil_left]at hz;cases hz
   |cons a t RL=>
    cases vo with
    |nil=>rw[List.zip_nil_right]at hz;cases hz
    |cons c u RM=>
     rw[GY]at hz;injection hz with RN RO
     injection RN with hy L
     subst hy L;rw[lexLt_cons]at hR;simp only[AR]at al;obtain⟨e,he,MB⟩:=b7a A.in1 hg! a t c u;refine AA (he prog w _ _ ?_);cases e with
     |true=>
      rw[AN (MB.mp rfl).symm]at hR
      wp_walk
      exact⟨rfl,rfl,_,_,_,_,RO,RL,RM,t_,hR⟩
     |false=>
      rw[AH (λq=>absurd (MB.mpr q.symm) BC)]at hR;have RP:=b2z A.in1 hg! a t c u prog w
      wp_walk using RP
      exact⟨_,rfl,by simpa using hR⟩
  case fin=>
   rintro⟨b1,b2⟩ s' ⟨de,rfl,vs,ws,pi,pj,hz,yi,vo,al,hR⟩;simp only at de;subst de;have hv:lexLt pj pi=decide (jk.size<c5_):=by
    cases yi with
    |nil=>
     cases vo with
     |nil=>
      simp only[EW]at al;rw[lexLt_nil_nil];exact(AU a!).symm
     |cons c u hw=>
      simp only[EW,AR]at al;rw[mG];exact(AU a!).symm
    |cons a t hv=>
     cases vo with
     |nil=>
      simp only[EW,AR]at al;rw[mF];exact(BJ a!).symm
     |cons c u hw=>
      rw[GY]at hz;cases hz
   rw[hv]at hR
   wp_walk
   exact⟨_,rfl,by simpa[Builtin.Tuple.tupleCompareSizes]using hR⟩
  case h=>
   exact⟨rfl,rfl,items.toList,jk.toList,ns,ms,rfl,hi,hj,t_,h⟩
end
section
variable{prog:Program}{w:World}{A:Around}{E:Value->Shared->Prop}{s:Shared}
theorem gt_tupInts{b:Addr}{items jk:ab_}{ns ms:A_}{Q:p_}(hl:IsTup s.heap l items)(J:IsTup s.heap b jk)(hi:zN_)(hj:zO_)
  (hu:ao!)(h:Q pN! s):wpAny n_ A (compareOp .Gt i5! dV!) Q E s:=by
 obtain⟨⟨cls,dd,data,sl⟩,ho,hc,n,hd⟩:=id hl;obtain⟨⟨KG,km,data2,ja⟩,ie,jb,n2,jc⟩:=id J;simp only at hc hd jb jc;subst hc hd jb jc;exact richCompare_meets_room (op:=.Gt) iV! iV_ PySem.F.slot_tuple_gt PySem.F.entry_tuple_gt (PySem.F.args_tuple_gt_2 _ _) (oC l b items jk n n2 dd km sl ja ns ms hi hj)
  ⟨ho,ie,show Value.bool (lexLt ms ns)≠Value.notImplemented/\Q pN! s from⟨(λx=>nomatch x),h⟩⟩ hu
end
end HT
namespace DL
open PySem PySem.Spec PyProof.Rows L2
section
variable{X:Cx}{own bh:List Nat}{a b e tg o:Expr}{es:List Expr}{p pos:Pos}{fa fb f:Ag->Option D}
noncomputable def d0w(K:W.Frag):R2:=λx y H Q=>∃a b ns ms,x=.ref a/\y=.ref b/\Lp K H a b9!/\Lp K H b (ms.map V.int)/\Q (.bl pP_) H
theorem c6k(hu:X.A.units<cLine):Ml X sc_ (d0w X.K):=by intro O s Z H x y v u Q I rx ry h;obtain⟨a,b,ns,ms,rfl,rfl,ha,J,q⟩:=h;cases rx;cases ry;obtain⟨its,r1,p1,_⟩:=I.tuple ha;obtain⟨gj,r2,p2,_⟩:=I.tuple J;have i1:IntsAre its.toArray.toList ns:=mX r1;have i2:IntsAre gj.toArray.toList ms:=mX r2;exact HT.gt_tupInts p1 p2 i1 i2 hu ⟨.bl pP_,H,I,rfl,q⟩
noncomputable def rE:List D->Option (List Int)
 |[]=>some []
 |.int i::r=>(rE r).map (i::·)
 |_=>none
theorem eE{K:W.Frag}{G:Hp}:∀{ds:b!} {vs:l_} {ns:A_},Bb K G ds vs->rE ds=some ns->vs=ns.map V.int
 |[],vs,ns,r,e=>by cases Fp r;cases e;rfl
 |d::ds,vs,ns,r,e=>by
  obtain⟨v,t,rfl,r1,r2⟩:=Dg r;cases d<;>simp only[rE]at e<;>first|(cases e;done)|skip
  obtain⟨l,e1,rfl⟩:=AL.mp e;rw[eE r2 e1];cases By r1;rfl
noncomputable def gtT:D->D->Option D
 |.tup xs,.tup ys=>(rE xs).bind λns=>(rE ys).map λms=>.bl pP_
 |_,_=>none
theorem c6r{K:W.Frag}:Po K (d0w K) gtT:=by
 show"!/";unfold gtT at e;show"!7"
 .obtain⟨ns,e1,e⟩:=AB.mp e;obtain⟨ms,e2,rfl⟩:=AL.mp e;show"!S";obtain⟨b,ws,rfl,qb,rb⟩:=Da ry;rw[eE ra e1]at qa;rw[eE rb e2]at qb;exact⟨a,b,ns,ms,rfl,rfl,jI!,nX_,ec_⟩
 .cases e
noncomputable def c5r(neg:Bool):R2:=λx y H Q=>∃b c,x=.bl b/\y=.bl c/\Q zP! H
theorem c6h:Ml X sf! (c5r false):=by
 intro O s Z H x y v u Q I rx ry h;obtain⟨b,c,rfl,rfl,q⟩:=h;cases rx;cases ry;refine wpAny_is_plain rfl ?_;have e:zP_=(b==c):=by cases b<;>cases c<;>rfl
 rw[e];exact j2!
theorem a9t:Ml X sf_ (c5r true):=by
 intro O s Z H x y v u Q I rx ry h;obtain⟨b,c,rfl,rfl,q⟩:=h;cases rx;cases ry;refine wpAny_isNot_plain rfl ?_;have e:zP_=(b==c):=by cases b<;>cases c<;>rfl
 rw[e];exact j2!
noncomputable def isB(neg:Bool):D->D->Option D
 |.bl b,.bl c=>some zP!
 |_,_=>none
theorem b4z{K:W.Frag}{neg:Bool}:Po K (c5r neg) (isB neg):=by
 show"!/";unfold isB at e;show"!7"
 .cases e;cases Fk rx;cases Fk ry;exact oJ_
 .cases e
theorem b0z(hg:ir!)(hm:ir_)(ha:W_)(J:cD_)(hs:rP!:=by rfl)(bm:rQ!:=by rfl)
  (c7:starEach (a::[b]) X.env=dK_::starEach [b] X.env:=by rfl)(jg:starEach (b::[]) X.env=it_::starEach [] X.env:=by rfl):DI X own tg rQ_ (vK fa fb):=
 a0m (a9n hg hm (Hq ha.ok (Hq J.ok Mx jg) c7) hs bm) λZ G H R ρ ds er e k=>by
  obtain⟨x,e1,e3⟩:=AB.mp e;obtain⟨y,e2,e4⟩:=AB.mp e3;clear e e3;split at e4
  .rename_i i j;split at e4
   .rename_i h;cases e4;refine xw!;cases By r1;cases By r2;refine⟨i,j,rfl,t_,k _ G2 H2 df! ?_⟩;intro n G' H' g1 g2;unfold sZ;refine vS!;rw[BS]at hd;obtain⟨m,hj,rfl⟩:=AL.mp hd;obtain⟨hl,he⟩:=AZ.mp hj;rw[GZ]at he;subst he;rw[EV]at hl;refine⟨hl,g4!⟩;obtain⟨z1,z2⟩:=hy;subst z1 z2;exact⟨G',Ev.refl g2,Bn.int⟩
   .cases e4
  .cases e4
noncomputable def b9v:V->List V->Hp->VK->Prop:=λx vs H Q=>∃l xs k y,x=.ref l/\vs=[.int (k:Nat),y]/\H l=some L!/\k<=k_/\k_<sizeLine/\Q .non (upd H l (.lst (xs.take k++y::xs.drop k)))
theorem b0i:MtM X "list.insert" b9v:=by
 intro O s Z H x vs v us Q I rx rv h;obtain⟨l,xs,k,y,rfl,rfl,hH,hk,hz,q⟩:=h;cases rx;obtain⟨u,u2,rfl,⟨t,rfl⟩,ru⟩:=a5h rv;obtain⟨z,its,n,r,hl,e⟩:=I.lstM hH;have xf:¬(!Builtin.List.listFitsIndex (k:Int))=true:=by
  rw[fitsIndex_both (Int.le_trans c! (Int.natCast_nonneg k)) (Int.lt_of_le_of_lt (Int.ofNat_le.mpr (BN hk (FW hz))) vG_)];exact BC
 have hsz:bi!<=sizeLine:=by rw[AJ];omega
 refine IV (S:=?S) PySem.F.slot_list_insert c8! PySem.F.entry_list_insert (PySem.F.args_list_insert_3 _ _ _) ?g ?h
 case g=>exact @PySem.AutoSeq1.list_insert_list_int_val_1 l its.toArray n (k:Int) t u2 xf hsz
 refine e1!;refine⟨.non,_,I.lset (its':=its.take k++u2::its.drop k) hH e ?_ ((r.take k).append (.cons ru (r.drop k))) ?_,rfl,q⟩
 .have B:¬bb_<0:=by omega
  have Y:min (bb_).toNat bi!=k:=by simp;omega
  simp only[B,BW,Y];simp[List.extract_eq_drop_take];rw[zQ_]
 .simp only[AY,AR,HQ,JF];omega
noncomputable def b2u(i:Nat)(fk f:e!):Ag->Option Fl:=λρ=>(fk ρ).bind λx=>(aj!).bind λd=>match x,ρ[i]? with
 |.int j,some (some (.lst ds))=>if 0<=j/\j.toNat<=f_/\f_<big then some (.nx (ρ.set i (some (.lst (ds.take j.toNat++d::ds.drop j.toNat)))))else none
 |_,_=>none
theorem b0y{i:Nat}{x:Str}{ag ac:Pos}{fk:e!}(bo:d9!:=by decide)(hk:DE X own ek fk)(h:de_)(hN:ak_:=by rfl)(hv:cX_:=by first|exact Or.inl rfl|exact Or.inr b_|exact Or.inr bm!)
  (hd:G!:=by decide)(bv:cY!:=by decide)
  (bx:starEach (ek::[e]) X.env=(false,eval ek X.env)::starEach [e] X.env:=by rfl)(RQ:jT_:=by rfl)(gk:((backTo ac (starEach [ek,e] X.env)).all cx_&&(cy!).all cy_
   &&decide ([ek,e].length+(dW!).length+e0!<30))=true:=by rfl) (ez:c7_:=by rfl)
  (eh:attributeBase bn! "insert" X.env jU!=eval bn! X.env:=by rfl) (gn:(jf!).any a_=false:=by rfl) (j1:swapsWith zR! none pos.line X.env=pure false:=by rfl):
  DS X own own (.Expr zR! pos) (b2u i fk f):=⟨λG0 F0 O s Z H E I ⟨G,ρ,r,er,e',k⟩=>by
  refine iX (qL FZ PySem.F.slot_list_insert PySem.F.type_list_insert b0i jB_ (Hq hk.ok (Hq h.ok Mx RQ) bx) eh gk ez bx gn) j1 O s Z H E I ?_;obtain⟨z,e1,e4⟩:=AB.mp e';obtain⟨d,e3,e2⟩:=AB.mp e4;clear e' e4;obtain⟨p,ds,vs,B,Y,h3,h4,h5⟩:=er.or.own_ i bo;rw[B]at e2;cases z<;>first|(cases e2;done)|skip
  rename_i j;simp only at e2;split at e2
  .rename_i hj;cases e2;refine⟨fg_,Y,od_,G,ρ,_,er.or,e1,λv G' H' x r=>⟨G',ρ,d,er.or.grow x,e3,λv2 G2 H2 x2 r2=>?_⟩⟩;cases By r;have hl:=Ar h5;refine⟨p,vs,j.toNat,v2,rfl,?_,wc_,t_,by rw[<-hl];exact BE hj.2.2 (Fg x_),?_⟩
   .rw[Int.toNat_of_nonneg hj.1]
   .have h6:=(oe!).mono x2.g;exact k G2 Z _ (((g7!).grow x2).upd bo Y (Gb (eF _ h6) (Bb.cons r2 (eG _ h6))))
  .cases e2⟩
end
end DL
namespace DL
open PySem PySem.Spec PyProof.Rows L2
section
variable{X:Cx}{own bh:List Nat}{a b e tg o:Expr}{es:List Expr}{p p2 pos:Pos}{fa fb fo f:WE}{fs:WA}
noncomputable def b1v(i:Nat)(f:WE):WS:=λρ M R=>f ρ M λd M1=>Ie (dA M1 d) λq=>match ρ[i]? with
 |some (some (.lst ds))=>f_+pr!<=big/\R (.nx (ρ.set i (some (.lst (ds++q.2))))) M1
 |_=>False
theorem b0k{i:Nat}{x:Str}{ag ac:Pos}(bo:d9!:=by decide)(h:bW!)(hN:ak_:=by rfl)(hv:cX_:=by first|exact Or.inl rfl|exact Or.inr b_|exact Or.inr bm!)
  (hd:G!:=by decide)(bv:cY!:=by decide)
  (bx:jT_:=by rfl)(gk:((jf!).all cx_&&(cy!).all cy_
   &&decide v7!)=true:=by rfl) (ez:c7_:=by rfl)
  (eh:attributeBase bn! "extend" X.env jU!=eval bn! X.env:=by rfl) (gn:g8!:=by rfl) (j1:swapsWith zS! none pos.line X.env=pure false:=by rfl):
  MS X own own (.Expr zS! pos) (b1v i f):=
 bS (iX (qL FZ PySem.F.slot_list_extend PySem.F.type_list_extend b0j jB_ v9! eh gk ez bx gn) j1) λM0 G0 F0 E Z G H ρ M R sr e' k1 k2=>by
  obtain⟨p,ds,vs,B,Y,h3,h4,h5⟩:=sr.st.or.own_ i bo;refine⟨fg_,Y,od_,G,ρ,M,_,sr.st,e',zl_⟩;obtain⟨⟨c,zs⟩,e1,r⟩:=Gc r;obtain⟨z1,z2,z3,us,h6,h7⟩:=nR m q e1;cases z2;rw[B]at r;have du:=sr.grow x m;obtain⟨p',rc,f9,g1,g2,g3,g4,g5⟩:=du.st.or.own_ i bo;rw[Y]at g2;cases g2;rw[B]at g1;cases g1;refine⟨p,c,f9,us,rfl,rfl,g3,h6,?_,k1 _ M' G' Z _ r.2 (du.after (du.sr.upd bo Y (Gb g5 h7)))⟩;have:=r.1;rw[<-Ar g5,<-Ar h7];exact Fg this
noncomputable def jP(s0:Str)(fa:WE):WE:=λρ M R=>fa ρ M λy M2=>Ie (Wv (.str s0) y) λd=>R d M2
theorem a7e{s0:Str}{n0:Nat}{ag ac:Pos}(ha:ay_)
  (eh:attributeBase kV! "join" X.env (eval kV! X.env)=eval kV! X.env:=by rfl)
  (gk:((oq_).all cx_&&(cy!).all cy_
   &&decide or!)=true:=by rfl)
  (ez:c7_:=by rfl) (hs:jM!:=by rfl) (gn:g8!:=by rfl):
  ME X own (.Call (.Attribute kV! "join" ag) [a] [] ac) (jP s0 fa):=
 Ju (qL PySem.F.plainAttrs_str PySem.F.slot_str_join PySem.F.type_str_join a7b a3b wF_ eh gk ez hs gn) λZ G H Q ρ M R st e k=>⟨rfl,G,ρ,M,_,st,e,λy M2 w G2 H2 r2 x2 m2 q2=>by
  obtain⟨d,e3,r3⟩:=Gc r2;cases y<;>first|(cases e3;done)|skip
  rename_i xs;obtain⟨ys,e4,e5⟩:=AB.mp (show((jS xs).bind λys=>if(j4!).sum+Z!*s0.length<=big then some (.str (Txt.join s0 ys))else none)=some d from e3);split at e5
  .rename_i hl;cases e5;obtain⟨p,vs,rfl,q,rr⟩:=De q2;have:=kW rr e4;subst this;exact⟨_,p,ys,rfl,rfl,x2.sub.seq q,BN hl c!,k _ M2 _ G2 H2 r3 x2 m2 Bn.str⟩
  .cases e5⟩
noncomputable def a5f(fs:WA)(fb:WE):WE:=λρ M R=>fs ρ M λds M1=>f_<=1000/\fb ρ M1 λy M2=>match y with
 |.int k=>(0<=k/\k<=1000/\f_*k.toNat<=1000)/\∀p,M2 p=none->R D_ (Cg M2 p (.lst (List.replicate k.toNat ds).flatten))
 |_=>False
theorem b6x{G H:Hp}{p:Addr}{o:HO}(s:M_)(hp:cC!):Ev G H G e9!:=⟨e9_,Pz hp,s.trans (Pz hp),dk_⟩
theorem xQ{K:W.Frag}{G:Hp}(r:jP_):∀k:Nat,Bb K G (List.replicate k ds).flatten (List.replicate k vs).flatten
 |0=>Bb.nil
 |k+1=>by
  rw[ED,ED,FL,FL];exact Gb r (xQ r k)
theorem c1h(ha:hv!)(J:cI_):ME X own (.BinOp (.List es p2) .Mult b pos) (a5f fs fb):=
 Ju (a6q c6d (lI ha.ok) J.ok) λZ G H Q ρ M R st e k=>⟨G,ρ,M,_,st,e,λds M1 vs G1 H1 r1 x1 m1 q1=>⟨by rw[<-Ar q1];exact Mf r1.1,λp hp=>by
  have xj:Ev G1 H1 G1 (upd H1 p dd!):=b6x x1.sub hp;have hM:M1 p=none:=m1.nocell hp;refine⟨G1,ρ,M1,_,(fD_).grow (.ext xj) (m1.ext xj),r1.2,λy M2 v G2 H2 r2 x2 m2 q2=>?_⟩;cases y<;>first|exact r2.elim|skip
  rename_i n;cases By q2;obtain⟨⟨hn,jw,hl⟩,r2⟩:=r2;have RS:H2 p=some dd!:=x2.keep p _ Dq hM;refine⟨p,n,vs,rfl,rfl,RS,t_,t_,by rw[<-Ar q1];exact Mf hl,ke_⟩;have RT:=(x1.trans (.ext xj) m1).trans x2 (m1.ext xj);exact k _ _ _ G2 _ (r2 c (m2.nocell hc)) (RT.trans (.laid x2.sub hc) m2) (m2.laid hc x2.sub ⟨_,Dq,xQ cm! _⟩) Bn.fn⟩⟩
end
noncomputable def rk(r:fJ_)(xs:co!)(i:Nat):Int:=(xs[i]?.map r).getD 0
theorem b2w{r:fJ_}{xs:co!}{c d:Nat}(hs:c<xs.size)(hd:d<=c)(k:Nat):rk r (bubble xs c d) k=if k=c - d then rk r xs c else if c - d<k/\k<=c then rk r xs (k - 1)else rk r xs k:=by
 unfold rk;rw[getElem?_bubble hs d hd k];split
 .rfl
 .split<;>rfl
theorem a2p{r:fJ_}{xs:co!}{i j:Nat}(hj:j<=xs.size)(k:Nat):rk r zV! k=if i<=k/\k<j then rk r xs (i+j - 1 - k)else rk r xs k:=by unfold rk;rw[getElem?_mirror_all hj k];split<;>rfl
theorem bG{r:fJ_}{xs:co!}{i j:Nat}(hj:j<=xs.size)(he:∀k,i<=k->k<j->rk r xs k=rk r xs eq_)(k:Nat):rk r zV! k=rk r xs k:=by
 rw[a2p hj];by_cases h:i<=k/\k<j
 .rw[AN h,he _ a! a!,he k h.1 h.2]
 .rw[AH h]
noncomputable def Up(r:fJ_)(xs:co!)(n:Nat):Prop:=∀i j,i<=j->j<n->rk r xs i<=rk r xs j
noncomputable def Dn(r:fJ_)(xs:co!)(n:Nat):Prop:=∀i j,i<=j->j<n->rk r xs j<=rk r xs i
structure SB(kd:SortKind)(a0:co!)(st:SortSt):Prop where
 pm:(z_).Perm a0
 kn:kindOf st=kd
 fl:failedOf st=none
 pd:pendingOf st=#[]
theorem SB.sz{kd:SortKind}{a0:co!}{st:SortSt}(h:co_):(z_).size=a0.size:=h.pm.size_eq
theorem SB.put{kd:SortKind}{a0 xs:co!}{st:SortSt}(h:co_)(hp:xs.Perm z_):SB kd a0 (setArr st xs):=⟨hp.trans h.pm,h.kn,h.fl,h.pd⟩
section
variable{prog:Program}{w:World}{A:Around}{E:Value->Shared->Prop}{s:Shared}{a0:Array Keyed}{kd:SortKind}{r:Keyed->Int}
variable (prog w A s a0 kd r)in
noncomputable def a1h:Prop:=∀(x y:Keyed) (F:p_) (Q:ek!),x∈hI!->y∈hI!->Q (decide (r x<r y)) s->wpAny n_ A (keyLt' kd x.1 y.1) Q F s
theorem b2t{st:SortSt}{i j:Nat}{Q:Option Bool->SortSt->Prop}(hl:du_)(b:co_)(hi:i<a0.size)(hj:j<a0.size)(h:Q (some (decide (rk r z_ i<rk r z_ j))) st):wpS n_ A E s (ltAt' i j) Q st:=by
 have at_:∀k,k<a0.size->∃p,z_[k]?=some p/\p∈hI!/\rk r z_ k=r p:=λk hk=>by
  have cr:k<(z_).size:=by rw[b.sz];exact hk
  refine⟨z_[k],zX!,(Array.perm_iff_toList_perm.mp b.pm).mem_iff.mp d_,?_⟩;unfold rk;rw[zX!];rfl
 obtain⟨x,ex,mx,rx⟩:=at_ i hi;obtain⟨y,ey,my,ry⟩:=at_ j hj;rw[rx,ry]at h;rw[ltAt'_eq];refine CQ fK!;show wpS n_ A E s (elem' z_ i>>=λx=>elem' z_ j>>=λy=>lt' x y) Q st;rw[elem'_eq,elem'_eq,ex,ey];refine CQ (EI (CQ (EI ?_)));rw[lt'_eq];refine CQ fK!;rw[b.kn];exact CQ (wpS_lift (HA (hl x y _ _ mx my ⟨rfl,EI h⟩)))
theorem c3r{st:SortSt}{a n:Nat}{Q:AscSt->SortSt->Prop}(hl:du_)(hn:fK_)(ha:1<=a)(RU:a<=n)(b:co_)(hu:Up r z_ a)
  (h:∀m,a<=m->m<=n->Up r z_ m->(m=n\/rk r z_ m<rk r z_ hI_)->Q (none,m) st):wpS n_ A E s (ascLoop a n) Q st:=by
 unfold ascLoop;refine II (I:=λx c h1=>h1=st/\c=(none,x)/\Up r z_ x) ?_ ?_ ⟨rfl,rfl,hu⟩
 .rintro x c h1 B Y ⟨rfl,rfl,u⟩;refine CQ (b2t hl b (BE Y hn) a! ?_);by_cases q:rk r y_ x<rk r y_ hJ!
  .rw[BJ q];exact EI (h x B (FW Y) u (.inr q))
  .rw[AU q];refine EI ⟨rfl,rfl,zY_⟩;rcases EL j x with h5|h5
   .exact u i j h3 h5
   .have:j=x:=by omega
    subst this;rcases EL i j with h6|h6
    .have:=u i eq_ a! a!;omega
    .have:i=j:=by omega
     rw[this];exact ET _
 .rintro c h1 ⟨rfl,rfl,u⟩;rw[show max a n=n by omega]at u ⊢;exact h n RU x_ u aH!
theorem b2q{st:SortSt}{m n:Nat}{Q:pU!}(hl:du_)(hn:fK_)(B:1<=m)(hm:m<=n)(b:co_)(hd:Dn r z_ m)
  (h:pU_):wpS n_ A E s (tail3 m n) Q st:=by
 unfold tail3;have b':SB kd a0 (setArr st pV!):=b.put kW!;have hz:m<=(z_).size:=by rw[b.sz];omega
 refine CQ (wpS_reverse (CQ (c3r hl hn B hm b' (λi j h3 h4=>?_) λk h3 h4 u _=>EI (h k _ b' a! h4 u))));show rk r pV! i<=rk r pV! j;rw[a2p hz,a2p hz,ab!,ab!];exact hd _ _ a! a!
theorem c5j{st:SortSt}{m n:Nat}{Q:DescSt->SortSt->Prop}(hl:du_)(hn:fK_)(B:1<=m)(hm:m<=n)(b:co_)(hd:Dn r z_ m)
  (h:∀k q h1,SB kd a0 h1->m<=k->k<=n->Dn r y_ k->q+1<=k->(∀i,k - (q+1)<=i->i<k->rk r y_ i=rk r y_ (k - 1))->Q (none,k,q) h1):wpS n_ A E s (descLoop m n) Q st:=by
 unfold descLoop;refine II (I:=λx c h1=>∃q,c=(none,x,q)/\SB kd a0 h1/\Dn r y_ x/\q+1<=x/\∀i,x - (q+1)<=i->i<x->rk r y_ i=rk r y_ hJ!) ?_ ?_ ⟨0,rfl,b,hd,t_,λi Y h3=>by rw[show i=m - 1 by omega]⟩
 .rintro x c h1 Y h3 ⟨q,rfl,b',d,hq,he⟩;have hz:x<=(y_).size:=by rw[b'.sz];omega
  refine CQ (b2t hl b' (BE h3 hn) z0_ ?_);by_cases p:rk r y_ x<rk r y_ hJ!
  .rw[BJ p];have om:∀xs:Array Keyed,(∀k,rk r xs k=rk r y_ k)->Dn r xs (x+1):=λxs hk i j h4 h5=>by
    rw[hk,hk];rcases EL j x with h6|h6
    .exact d i j h4 h6
    .have:j=x:=by omega
     subst this;rcases EL i j with h7|h7
     .have:=d i eq_ a! a!;omega
     .show"#;"
   by_cases sj:q>0
   .simp only[CF,sj];exact CQ (wpS_reverse (EI ⟨0,rfl,b'.put kW!,om _ (bG hz he),t_,z1_⟩))
   .simp only[CF,sj,BW];exact EI ⟨0,rfl,b',om _ λ_=>rfl,t_,z1_⟩
  .rw[AU p];show"#(";refine CQ (b2t hl b' z0_ (BE h3 hn) ?_);by_cases p2:rk r y_ hJ!<rk r y_ x
   .rw[BJ p2];exact EI (h x q h1 b' Y (FW h3) d hq he)
   .rw[AU p2];have ex:rk r y_ x=rk r y_ hJ!:=by omega
    refine EI ⟨q+1,rfl,b',λi j h4 h5=>?_,t_,λi h4 h5=>?_⟩
    .rcases EL j x with h6|h6
     .exact d i j h4 h6
     .have:j=x:=by omega
      subst this;rcases EL i j with h7|h7
      .rw[ex];exact d i eq_ a! a!
      .show"#;"
    .rw[show x+1 - 1=x by omega];rcases EL i x with h6|h6
     .rw[ex];exact he i a! h6
     .rw[show i=x by omega]
 .rintro c h1 ⟨q,rfl,b',d,hq,he⟩;rw[show max m n=n by omega]at d hq he ⊢;exact h n q h1 b' hm x_ d hq he
theorem b2s{st:SortSt}{m n:Nat}{Q:pU!}(hl:du_)(hn:fK_)(hm:m+1<=n)(b:co_)(hd:Dn r z_ (m+1))
  (h:pU_):wpS n_ A E s (descPart m n) Q st:=by
 unfold descPart;refine CQ (wpS_lift (DY ⟨rfl,CQ (c5j hl hn a! hm b hd λk q h1 b' B Y d hq he=>?_)⟩));by_cases sj:q>0
 .simp only[CF,sj];refine CQ (wpS_reverse (b2q hl hn a! Y (b'.put kW!) (λi j h4 h5=>?_) h));show rk r z2! j<=rk r z2! i;have hz:k<=(y_).size:=by rw[b'.sz];omega
  rw[bG hz he,bG hz he];exact d i j h4 h5
 .simp only[sj,BW];exact b2q hl hn a! Y b' d h
theorem b9s{st:SortSt}{n:Nat}{Q:pU!}(hl:du_)(hn:fK_)(B:1<=n)(b:co_)(h:pU_):
  wpS n_ A E s (countRun' 0 n) Q st:=by
 rw[countRun0_eq];refine CQ (c3r hl hn (BB 1) B b (λi j h3 h4=>by rw[fL!];exact ET _) λm h3 h4 u RW=>?_);by_cases e:m=n
 .simp only[FJ,e,CF];rw[<-e];exact EI z2_
 .have am:rk r z_ m<rk r z_ hI_:=RW.resolve_left e;simp only[FJ,e,BW];by_cases hg:m>1
  .simp only[hg,CF];refine CQ (b2t hl b a! a! ?_);by_cases p:rk r z_ 0<rk r z_ hI_
   .rw[BJ p];exact EI z2_
   .rw[AU p];have sk:∀k,0<=k->k<m->rk r z_ k=rk r z_ hI_:=λk _ hk=>by
     have a1:=u 0 k a! hk;have a2:=u k hI_ a! a!;omega
    have hz:m<=(z_).size:=by rw[b.sz];omega
    refine CQ (wpS_reverse (b2s hl hn a! (b.put kW!) z3! h));show rk r z3_ j<=rk r z3_ i;rw[bG hz sk,bG hz sk];rcases EL j m with h7|h7
    .rw[sk i a! a!,sk j a! h7];exact ET _
    .have:j=m:=by omega
     subst this;rcases EL i j with h8|h8
     .rw[sk i a! h8];omega
     .show"#;"
  .simp only[hg,BW];have:m=1:=by omega
   subst this;refine b2s hl hn a! b z3! h;rcases EL i j with h8|h8
   .rw[show i=0 by omega,show j=1 by omega];exact Int.le_of_lt am
   .show"#;"
theorem d0j{st:SortSt}{n k0:Nat}{Q:Bool->SortSt->Prop}(hl:du_)(hn:fK_)(hk:k0<=n)(b:co_)(hu:Up r z_ k0)(h:∀h1,SB kd a0 h1->Up r y_ n->Q true h1):
  wpS n_ A E s (binarySort' 0 n k0) Q st:=by
 rw[binarySort'_eq];simp only[JE];refine CQ (wpS_mono (II (I:=λk c h1=>c=el!/\SB kd a0 h1/\Up r y_ (min k n)) (Q:=λc h1=>c=el!/\SB kd a0 h1/\Up r y_ n) ?_ ?_ ⟨rfl,b,zY_⟩) ?_)
 .rintro k c h1 Y h3 ⟨rfl,b',u⟩;rw[show min k n=k by omega]at u;have li:k<a0.size:=by omega
  refine CQ (wpS_mono (II (I:=λx c bf=>bf=h1/\∃lo hi,c=(none,lo,hi)/\lo<=hi/\hi<=k/\hi - lo<=k - x/\z4_/\∀i,hi<=i->i<k->rk r y_ k<rk r y_ i)
   (Q:=λc bf=>bf=h1/\∃lo hi,c=(none,lo,hi)/\lo<=k/\z4_/\∀i,lo<=i->i<k->rk r y_ k<rk r y_ i) ?_ ?_ ⟨rfl,0,k,rfl,t_,t_,t_,λi hi=>by omega,λi h4 h5=>by omega⟩) ?_)
  .rintro x c bf h4 h5 ⟨rfl,lo,hi,rfl,g1,g2,g3,g4,g5⟩;show"#0";by_cases MC:lo>=hi
   .rw[AN MC];have:lo=hi:=by omega
    subst this;exact EI z5!
   .rw[AH MC];refine CQ (b2t hl b' li a! ?_);by_cases p:rk r dv_ k<rk r dv_ pX!
    .rw[BJ p];refine EI ⟨rfl,lo,(lo+hi) / 2,rfl,t_,t_,t_,g4,λi h6 h7=>?_⟩;have:=u pX! i h6 h7;omega
    .rw[AU p];refine EI ⟨rfl,(lo+hi) / 2+1,hi,rfl,t_,t_,t_,λi h6=>?_,g5⟩;have:=u i pX! a! a!;omega
  .rintro c bf ⟨rfl,lo,hi,rfl,g1,g2,g3,g4,g5⟩;have:lo=hi:=by omega
   subst this;exact z5!
  .rintro c bf ⟨rfl,lo,hi,rfl,g1,g4,g5⟩;show wpS n_ A E s (moveDown' k lo>>=λ_=>pure (ForInStep.yield el!)) _ _;rw[moveDown'_eq];refine CQ (wpS_modify (EI ⟨rfl,b'.put (bubble_perm _ _ _),λi j h6 h7=>?_⟩));rw[show min S! n=k+1 by omega]at h7;have mv:k<(dv_).size:=by rw[b'.sz];exact li
   show rk r z6! i<=rk r z6! j;rw[b2w mv a!,b2w mv a!,show k - (k - lo)=lo by omega];have n1:∀m,m<lo->rk r dv_ m<=rk r dv_ k:=g4;have n2:∀m,lo<=m->m<k->rk r dv_ k<rk r dv_ m:=g5;by_cases ei:i=lo
   .rw[AN ei];by_cases ej:j=lo
    .rw[AN ej];exact ET _
    .rw[AH ej];by_cases fj:lo<j/\j<=k
     .rw[AN fj];exact Int.le_of_lt (n2 eq_ a! a!)
     .omega
   .rw[AH ei];by_cases fi:lo<i/\i<=k
    .rw[AN fi,AH a!,ab!];exact u (i - 1) eq_ a! a!
    .rw[AH fi];by_cases ej:j=lo
     .rw[AN ej];exact n1 i a!
     .rw[AH ej];by_cases fj:lo<j/\j<=k
      .rw[AN fj];exact u i eq_ a! a!
      .rw[AH fj];exact u i j h6 a!
 .rintro c h1 ⟨e,b',u⟩;rw[show min (max (max k0 1) n) n=n by omega]at u;exact⟨e,b',u⟩
 .by_cases h0:k0=0
  .show"#;"
  .exact hu i j h3 a!
 .rintro c h1 ⟨rfl,b',u⟩;exact EI (h h1 b' u)
theorem b2r{st:SortSt}{Q:Unit->SortSt->Prop}(hl:du_)(b:co_)(Y:2<=a0.size)(m7:a0.size<64)
  (h:∀h1,(y_).Perm a0->failedOf h1=none->Up r y_ a0.size->Q () h1):wpS n_ A E s sortRuns' Q st:=by
 rw[sortRuns'_eq];refine CQ fK!;have RX:minRun' a0.size a0.size 0=a0.size:=by
  have:∀f,minRun' (f+1) a0.size 0=a0.size:=λf=>by rw[minRun'_succ,AN m7];rfl
  have q:=this (a0.size - 1);rwa[show a0.size - 1+1=a0.size by omega]at q
 dsimp only;simp only[b.sz,RX];have fin:∀{h1:SortSt},SB kd a0 h1->Up r y_ a0.size->(arrOf kY_).Perm a0/\failedOf kY_=none/\pendingOf kY_=#[kY!]/\Up r (arrOf kY_) a0.size:=
  λ{h1} b' u=>⟨b'.pm,b'.fl,by show(z8_).push _=_;rw[b'.pd];rfl,u⟩
 refine CQ (wpS_mono (II (I:=λx c h1=>(x=0/\c=(none,0)/\SB kd a0 h1)\/(1<=x/\c=z9_/\(y_).Perm a0/\failedOf h1=none/\pendingOf h1=#[kY!]/\Up r y_ a0.size))
  (Q:=λc h1=>c=z9_/\(y_).Perm a0/\failedOf h1=none/\pendingOf h1=#[kY!]/\Up r y_ a0.size) ?_ ?_ (.inl ⟨rfl,rfl,b⟩)) ?_)
 .rintro x c h1 _ L (⟨rfl,rfl,b'⟩|⟨_,rfl,d⟩)
  .show"#0";rw[AH a!];simp only[Nat.sub_zero,Nat.min_self,JE];refine CQ (b9s hl x_ a! b' λm bf b2 g1 g2 u2=>?_);by_cases am:m<a0.size
   .simp only[am,CF];refine CQ (wpS_lift (DY ⟨rfl,CQ (d0j hl x_ g2 b2 u2 λu6 b3 u3=>?_)⟩));simp only[DX,BH,BW];refine CQ fK!;rw[show(pendingOf u6).back?=none by rw[b3.pd];rfl];exact CQ (wpS_modify (EI (.inr ⟨BB 1,rfl,fin b3 u3⟩)))
   .simp only[am,BW];have:m=a0.size:=by omega
    subst this;refine CQ fK!;rw[show(pendingOf bf).back?=none by rw[b2.pd];rfl];exact CQ (wpS_modify (EI (.inr ⟨BB 1,rfl,fin b2 u2⟩)))
  .show"#0";rw[AN x_];exact EI ⟨rfl,d⟩
 .rintro c h1 (⟨L,_⟩|⟨_,e,d⟩)
  .omega
  .exact⟨e,d⟩
 .rintro c h1 ⟨rfl,d1,d2,d3,d4⟩;refine CQ (wpS_mono (II (I:=λ_ c bf=>bf=h1/\c=el!) (Q:=λc bf=>bf=h1/\c=el!) ?_ Aa! bK_) ?_)
  .rintro x c bf _ _ ⟨rfl,rfl⟩;refine CQ fK!;rw[AN (by rw[d3];exact BB 1)];exact EI bK_
  .rintro c bf ⟨rfl,rfl⟩;exact EI (h _ d1 d2 d4)
end
abbrev b9b:Bool->SortKind:=sortPriv%PySem.Builtin.KeyKind.tuples
section
variable{prog:Program}{w:World}{A:Around}{E:Value->Shared->Prop}{s:Shared}
noncomputable def Oq(h:Heap)(v:Value)(a b:Int):Prop:=∃(p:Addr) (o:Obj) (n:Nat) (t u:Tok),v=.ref p/\h.get? p=some o/\o.cls=.type "tuple"/\o.data=.seq #[.int a t,.int b u] n
noncomputable def ltP(a b c d:Int):Bool:=if a=c then decide (b<d)else decide (a<c)
theorem qN{f:Bool}{a b:Int}{Q:ek!}(h:Q (decide (a<b)) s):wpAny n_ A (oneLt' f gB! (.int b u)) Q E s:=by
 cases f with
 |true=>exact oneLt_int h
 |false=>
  rw[oneLt'_eq];rw[AH BC];refine AA (show wpAny n_ A (compareOp .Lt gB! (.int b u)) _ E s from PyProof.Rows.lt_int ?_);exact CA h
theorem mT{f:Bool}{a b c d:Int}{Q:ek!}(L:Oq s.heap x a b)(hy:Oq s.heap y c d)(h:Q (ltP a b c d) s):wpAny n_ A (keyLt' (b9b f) x y) Q E s:=by
 obtain⟨p,o,n,t,u,rfl,B,_,Y⟩:=L;obtain⟨p',o',n',t',u',rfl,j3,_,mz⟩:=hy;show wpAny n_ A (Builtin.List.listItems b7!>>=_) Q E s;refine AA (IJ B Y (AA (IJ j3 mz gs_)));show wpAny n_ A (forIn [((Value.int a t,Value.int c t'),0),((Value.int b u,Value.int d u'),1)] _ _) _ E s;rw[FH];refine AA (AA (HM a t c t' _ _ _ _ ?_));unfold ltP at h;by_cases e:a=c
 .rw[AN e]at h;have e1:(a==c)=true:=by simpa using e
  rw[e1];simp only[DX,BH,BW];refine AC ?_;show"#0";rw[FH];refine AA (AA (HM b u d u' _ _ _ _ ?_));by_cases e2:b=d
  .have e3:(b==d)=true:=by simpa using e2
   rw[e3];simp only[DX,BH,BW];refine AC ?_;dsimp only;rw[HC];refine AC ad_;have e4:decide (b<d)=false:=by rw[e2];simp
   rw[e4]at h;simpa using h
  .have e3:(b==d)=false:=by simpa using e2
   rw[e3];simp only[HD,CF];exact AA Ab_
 .rw[AH e]at h;have e1:(a==c)=false:=by simpa using e
  rw[e1];simp only[HD,CF];exact AA Ab_
theorem a5d{α β:Type}{f:α->Sem β}{F:cR!}{Q:Array β->Shared->Prop}:∀(xs:N_),Ac_->(∀ys,Paired F xs ys->Q ys.toArray s)->wpAny n_ A (xs.toArray.mapM f) Q E s:=by
 intro xs hf hq;rw[Array.mapM_eq_mapM_toList];have j4:∀(xs:N_) (R:List β->Shared->Prop),Ac_->(∀ys,Paired F xs ys->R ys s)->wpAny n_ A (xs.mapM f) R E s:=by
  intro xs
  induction xs with
  |nil=>
   intro R _ h;rw[List.mapM_nil];exact AC (h [] .nil)
  |cons x xs ih=>
   intro R B Y;rw[List.mapM_cons];refine AA (B x AM _ λy hy=>AA (ih _ (λz hz=>B z k2!) λys pp=>AC (Y _ (.cons hy pp))))
 have:(List.toArray<$>xs.toArray.toList.mapM f:Sem (Array β))=(xs.toArray.toList.mapM f>>=λl=>pure l.toArray):=by rw[map_eq_pure_bind]
 rw[this];exact AA (j4 _ _ (by simpa using hf) λys pp=>AC (hq ys (by simpa using pp)))
theorem zQ{vs:h!}{Q:SortKind->Shared->Prop}(h:∀v∈vs,∃a b,Oq s.heap v a b)(h0:vs≠[])(hq:Q (b9b true) s):wpAny n_ A (keyKind' b8_) Q E s:=by
 show wpAny n_ A (Array.mapM _ b8_>>=_) Q E s;refine AA (a5d (F:=λ_ y=>∃a t,y=some k4!) vs Ad_ λys pp=>?_)
 .obtain⟨a,b,p,o,n,t,u,rfl,B,Y,h3⟩:=h v hv;show wpAny n_ A (typeOf b7!>>=_) R E s;refine AA (wpAny_typeOf (T:="tuple") n3! ?_);rw[AH c!];exact AA (IJ B h3 (AC (hR _ ⟨a,t,rfl⟩)))
 .have ff:∀y∈ys,∃a t,y=some k4!:=by
   have j4:∀{l:h!} {m:List sw!},Paired (λ_ y=>∃a t,y=some k4!) l m->∀y∈m,∃a t,y=some k4!:=by
    intro l m hp
    induction hp with
    |nil=>intro y hy;cases hy
    |cons q _ ih=>
     intro y hy;rcases AD.mp hy with rfl|hy
     .exact q
     .exact ih y hy
   exact j4 pp
  have b7:ys≠[]:=λz=>by subst z;cases pp;exact h0 rfl
  rw[AN (by rw[List.all_toArray,DU];intro y hy;obtain⟨a,t,rfl⟩:=ff y hy;rfl)];refine AA hf_;have hints:∀v∈(Ae!).toList,∃a t,v=Value.int a t:=λv hv=>by
   simp only[List.filterMap_toArray,FB,id]at hv;obtain⟨y,hy,e⟩:=hv;obtain⟨a,t,e2⟩:=ff y hy;rw[e2]at e;exact⟨a,t,(BZ e).symm⟩
  have hz:(Ae!).toList≠[]:=λz=>by
   cases ys with
   |nil=>exact b7 rfl
   |cons y r=>
    obtain⟨a,t,rfl⟩:=ff y AM;simp at z
  generalize hZ:ys.toArray.filterMap id=RY at hints hz ⊢;obtain⟨zs⟩:=RY;refine AA ?_;show wpAny n_ A (Array.mapM typeOf zs.toArray>>=_) _ E s;refine AA (a5d (F:=λ_ y=>y=Value.type "int") zs Ad_ λts MD=>?_)
  .obtain⟨a,t,rfl⟩:=hints v iW!;exact wpAny_typeOf (typeIs_int s a t) (hR _ rfl)
  .have MF:∀t∈ts,t=Value.type "int":=by
    have j4:∀{l m:h!},Paired (λ_ y=>y=Value.type "int") l m->∀y∈m,y=Value.type "int":=by
     intro l m hp
     induction hp with
     |nil=>intro y hy;cases hy
     |cons q _ ih=>
      intro y hy;rcases AD.mp hy with rfl|hy
      .exact q
      .exact ih y hy
    exact j4 MD
   cases ts with
   |nil=>cases MD;exact absurd rfl hz
   |cons t r=>
    have ht:=MF t AM;subst ht;have e1:((Ae_).toArray)[0]?=some (Value.type "int"):=rfl;rw[e1];have e2:((Ae_).toArray.all λx=>x==Value.type "int")=true:=by
     rw[List.all_toArray,DU];intro y hy;rw[MF y hy];rfl
    show"#0";rw[AN e2];exact AC (AC hq)
end
noncomputable def Vb(p q:dw_):Bool:=ltP p.1 p.2 q.1 q.2
theorem jD{p q:dw_}:Vb p q=true↔(p.1<q.1\/(p.1=q.1/\p.2<q.2)):=by
 unfold Vb ltP;split
 .rename_i h;rw[BM];omega
 .rename_i h;rw[BM];omega
theorem a7h(p:dw_):Vb p p=false:=by
 cases h:Vb p p with
 |false=>rfl
 |true=>have:=jD.mp h;omega
theorem Si{p q r:dw_}(B:Vb p q=true)(Y:Vb q r=true):Vb p r=true:=by rw[jD]at B Y ⊢;omega
theorem uF{p q:dw_}(h:p≠q)(B:Vb p q=false):Vb q p=true:=by
 have j3:¬Vb p q=true:=by rw[B];simp
 rw[jD]at j3 ⊢;have:¬(p.1=q.1/\p.2=q.2):=λz=>h (Prod.ext z.1 z.2);omega
section
variable{α:Type}(kf:α->Int×Int)
noncomputable def nA(x:α):List α->List α
 |[]=>[x]
 |y::r=>if Vb (kf x) (kf y)then x::y::r else y::nA x r
noncomputable def Rc:List α->List α
 |[]=>[]
 |x::r=>nA kf x (Rc r)
noncomputable def fS(l:N_):Prop:=l.Pairwise λx y=>Vb (kf x) (kf y)=true
variable {kf}
theorem fF(x:α):∀l:List α,(nA kf x l).Perm (x::l)
 |[]=>FT _
 |y::r=>by
  unfold nA;split
  .exact FT _
  .exact((fF x r).cons y).trans (List.Perm.swap x y r)
theorem Ew:∀l:List α,(Rc kf l).Perm l
 |[]=>FT _
 |x::r=>(fF x _).trans ((Ew r).cons x)
theorem mZ{x:α}:∀{l:N_},fS kf l->(∀y∈l,kf x≠kf y)->fS kf (nA kf x l)
 |[],_,_=>List.pairwise_singleton _ _
 |y::r,h,hn=>by
  unfold nA;unfold fS at h;rw[CS]at h;split
  .rename_i am;refine CS.mpr ⟨k7_,CS.mpr h⟩;rcases AD.mp hz with rfl|hz
   .exact am
   .exact Si am (h.1 z hz)
  .rename_i am;refine CS.mpr ⟨k7_,mZ h.2 λz hz=>hn z k2!⟩;rcases AD.mp ((fF x r).mem_iff.mp hz)with rfl|hz
   .exact uF (hn y AM) x5_
   .exact h.1 z hz
theorem Ry:∀{l:N_},(l.map kf).Nodup->fS kf (Rc kf l)
 |[],_=>jh_
 |x::r,h=>by
  rw[AK,AV]at h;refine mZ (Ry h.2) λy hy e=>h.1 ?_;rw[e];exact AO ((Ew r).mem_iff.mp hy)
theorem bC:∀{l m:N_},fS kf l->fS kf m->l.Perm m->l=m
 |[],m,_,_,h=>(List.Perm.nil_eq h)
 |x::l,m,B,Y,h=>by
  cases m with
  |nil=>exact absurd h.length_eq d_
  |cons y m=>
   have e:x=y:=by
    rcases AD.mp (h.mem_iff.mp AM)with e|L
    .exact e
    .rcases AD.mp (h.symm.mem_iff.mp AM)with e|hy
     .exact e.symm
     .have a1:=(CS.mp B).1 y hy;have a2:=(CS.mp Y).1 x L;have:=Si a1 a2;rw[a7h]at this;cases this
   subst e;rw[bC (CS.mp B).2 (CS.mp Y).2 ((List.perm_cons x).mp h)]
theorem b4h{β:Type}{f:k8_}{l m:dz!}(h:l.Perm m):∀{av:N_},m=av.map f->∃L':List α,L'.Perm av/\L'.map f=l:=by
 induction h with
 |nil=>intro av e;exact⟨[],by rw[List.map_eq_nil_iff.mp e.symm],rfl⟩
 |cons x _ ih=>
  intro av e;cases av with
  |nil=>cases e
  |cons y av=>
   injection e with e1 e2
   obtain⟨L',B,Y⟩:=ih e2;exact⟨y::L',B.cons y,by rw[AK,Y,e1]⟩
 |swap x y l=>
  intro av e
  match av,e with
  |a::b::av,e=>
   injection e with e1 e2
   injection e2 with e3 e4
   exact⟨b::a::av,List.Perm.swap a b av,by rw[AK,AK,<-e1,<-e3,<-e4]⟩
 |trans _ _ RZ SA=>
  intro av e;obtain⟨L2,B,Y⟩:=SA e;obtain⟨L1,h3,h4⟩:=RZ Y.symm;exact⟨L1,h3.trans B,h4⟩
noncomputable def Rg(ks:fN!)(k:dw_):Int:=((ks.filter λx=>Vb x k).length:Nat)
theorem eB{ks:fN!}{p q:dw_}(hp:p∈ks)(h:Vb p q=true):Rg ks p<Rg ks q:=by
 unfold Rg;have j4:∀l:List hM!,(Ai_).length<=(Aj!).length:=by
  intro l
  induction l with
  |nil=>simp
  |cons x l ih=>
   simp only[JG];by_cases L:Vb x p=true
   .simp only[L,Si L h,CF,AR];omega
   .by_cases hy:Vb x q=true
    .simp only[L,hy,CF,AR];show"#(";omega
    .simp only[L,hy];show"#(";exact ih
 have SC:∀l:List hM!,p∈l->(Ai_).length<(Aj!).length:=by
  intro l hl
  induction l with
  |nil=>cases hl
  |cons x l ih=>
   rcases AD.mp hl with e|hl
   .subst e;have:=j4 l;simp only[JG,a7h,h,CF,AR,BH,BW];omega
   .have:=ih hl;simp only[JG];by_cases L:Vb x p=true
    .simp only[L,Si L h,CF,AR];omega
    .by_cases hy:Vb x q=true
     .simp only[L,hy,CF,AR];show"#(";omega
     .simp only[L,hy];show"#(";exact this
 have:=SC ks hp;omega
theorem a6a{ks:fN!}{p q:dw_}(hp:p∈ks)(hq:q∈ks):decide (Rg ks p<Rg ks q)=Vb p q:=by
 cases h:Vb p q with
 |true=>exact BJ (eB hp h)
 |false=>
  refine AU λz=>?_;by_cases e:p=q
  .subst e;omega
  .have:=eB hq (uF e h);omega
end
section
open Classical
variable{h:Heap}
theorem Oq.inj{a b c d:Int}(x:Oq h v a b)(y:Oq h v c d):Y!=(c,d):=by
 obtain⟨p,o,n,t,u,rfl,B,_,Y⟩:=x;obtain⟨p',o',n',t',u',e,j3,_,mz⟩:=y;cases e;rw[B]at j3;cases j3;rw[Y]at mz;injection mz with h3 _
 have:=congrArg Array.toList h3;simp at this;rw[this.1.1,this.2.1]
noncomputable def Wu(h:Heap)(v:Value):Int×Int:=if x:∃a b,Oq h v a b then(x.choose,x.choose_spec.choose)else(0,0)
theorem cG{a b:Int}(x:Oq h v a b):Wu h v=Y!:=by have z:∃a b,Oq h v a b:=⟨a,b,x⟩;unfold Wu;rw[dif_pos z];exact z.choose_spec.choose_spec.inj x
theorem gE{kf:D->Int×Int}{av:k9!}{m8 a0:co!}(ha:hI!=av.map a_)(hk:∀q∈av,Oq h q.1.1 (kf q.2).1 (kf q.2).2)(nd:(p2_).Nodup)(hp:m8.Perm a0)
  (hu:Up Al! m8 a0.size):∃L':List (Keyed×D),L'.Perm av/\m8.toList=L'.map a_/\L'.map B_=Rc kf p2!:=by
 have bq:m8.toList.Perm hI!:=Array.perm_iff_toList_perm.mp hp;obtain⟨L',B,Y⟩:=b4h bq ha;refine⟨L',B,Y.symm,bC ?_ (Ry nd) ((B.map _).trans (Ew _).symm)⟩;have fq:((L'.map B_).map kf).Nodup:=(((B.map _).map _).nodup_iff).mpr nd;unfold fS;rw[HB];intro i j hi hj MH;have cz:i<fO!:=by simpa using hi
 have yj:j<fO!:=by simpa using hj
 have hsz:m8.size=fO!:=by rw[<-CH,<-Y,AW]
 have bm:a0.size=fO!:=by rw[<-CH,ha,AW,B.length_eq]
 have MJ:∀k (cr:k<fO!),rk Al! m8 k=Rg p2_ (kf L'[k].2):=λk cr=>by
  unfold rk;have e:m8[k]?=some L'[k].1:=by
   rw[<-EQ,<-Y,BS,BA cr];rfl
  rw[e];show Rg _ (Wu h L'[k].1.1)=_;rw[cG (hk L'[k] Am_)]
 have ml:=hu i j (FW MH) a!;rw[MJ i cz,MJ j yj]at ml;simp only[List.getElem_map];have mem:∀k (cr:k<fO!),kf L'[k].2∈(p2!).map kf:=λk cr=>AO (AO Am_);have ne:kf L'[i].2≠kf L'[j].2:=λe=>by
  have q:=(List.getElem_inj (i:=i) (j:=j) (h₀:=by simpa using cz) (h₁:=by simpa using yj) fq).mp cQ!;omega
 cases am:Vb (kf L'[i].2) (kf L'[j].2)with
 |true=>rfl
 |false=>
  have:=eB (mem j yj) (uF ne am);omega
end
theorem a4v(a v:Value):argsOk "list.sort" An!:=by unfold argsOk;kernel_rfl
theorem wE(a v:Value):argsOk "sorted" An!:=by unfold argsOk;kernel_rfl
section
variable{X:Cx}{O:List (Addr×Obj)}{Z:St}{G H:Hp}{s:Shared}{A:Around}{E:Value->Shared->Prop}
theorem b9u{k:Nat}{sp:Sp}{Q:VK}(F:Ks X.prog X.w X.K X.mg X.base iR k f fd ps sp)(hr:gw_)(J:jG_)(e0:nZ X.prog X.w X.K X.mg X.base A X.stack s H)
  (I:d!)(r:ey_)(h:sp vs H Q E0):wpAny e_ A (call ah_ us) aH_ E s:=by
 have hl:(us++[]).length=S_:=by rw[BL,<-r.length];exact F.len _ _ _ _ h
 have de:=J s us I.kIn hl;rw[BL]at de;refine wpAny_call (IS (F.run A X.stack s H c5! us vs Q E0 hr e0 de r h) λr s' hq=>?_);cases r with
 |error e=>exact hq.elim
 |ok fl=>
  cases fl with
  |ret u=>exact I.after hq
  |next=>exact False.elim hq
  |brk=>exact False.elim hq
  |cont=>exact False.elim hq
noncomputable def Yo:D->Option hM!
 |.tup [.int a,.int b]=>some Y!
 |_=>none
theorem yN{a b:Int}(I:d!)(sub:M_)(r:bV!)(e:Yo d=some Y!):Oq s.heap u a b:=by
 unfold Yo at e;show"!7"
 .cases e;obtain⟨v,r,ru⟩:=r;show"!W";cases ru;show"!5";cases By r1;cases By r2;show"#5";obtain⟨x,y,rfl,⟨t,rfl⟩,⟨u,rfl⟩⟩:=a5h rv;exact⟨p,o,n,t,u,rfl,B,Y,h3⟩
 .cases e
noncomputable def aF(g:X!):List D->Option (List hM!)
 |[]=>some []
 |d::r=>(g [d]).bind λx=>(Yo x).bind λk=>(aF g r).map (k::·)
theorem d0k{oc':Obj}{h':Heap}{t':Nat}(I:Inv X (O++[er_,(c,oc)]) Z H s)(hc:Qs X O H c)(io:a≠c)(kp:∀b o,b≠c->s.heap.get? b=some o->h'.get? b=some o)(ho:h'.get? c=some oc')(hd:∀v,oc'.data≠.cell v):
  Inv X (O++[er_,(c,oc')]) Z H {s with heap:=h',toks:=t'}:=by
 have pa:=I.pin er_ (AS _ d_);have I1:Inv X p4_ Z H s:=I.pins_of λp hp=>I.pin p (AS _ (by
  rcases AQ.mp hp with z|z
  .exact BG _ z
  .exact AS _ (by simp at z;simp[z])))
 have j6:∀b∈[c],Qs X p4_ H b:=λb J=>by
  have e:b=c:=by simpa using J
  subst e;obtain⟨f0,f1,f2,f3,f4,f5⟩:=hc;refine⟨f0,f1,f2,f3,f4,ew_⟩;rcases AQ.mp hp with z|z
  .exact f5 p (BG _ z)
  .rcases AQ.mp z with z|z
   .exact f5 p (AS _ z)
   .have:p=er_:=by simpa using z
    rw[this];exact io
 have I2:Inv X p4_ Z H {s with heap:=h',toks:=t'}:=Sx I1 j6 λb o J e=>kp b o gi! e;refine I2.pins_of λp hp=>?_;rcases AQ.mp hp with z|z
 .exact I2.pin p (AS _ (BG _ z))
 .rcases AD.mp z with z|z
  .subst z;exact I2.pin _ fO_
  .have:p=(c,oc'):=by simpa using z
   subst this;exact⟨ho,hc.1,hc.2.1,hc.2.2.1,hd⟩
theorem qZ{k:Nat}{ps:p!}{g:X!}{body:Value->PUnit->Sem y3_}{Q:y1!}(F:Aq_)(hr:p5!)(J:jG_)(k8:S_=1)(io:a≠c)
  (oo:∀x (R:ForInStep PUnit->Shared->Prop) s,wpAny e_ X.A.in1.in1 (call ah_ [x]) (λk s'=>wpAny e_ X.A.in1.in1 (Builtin.List.listUpdate (.ref c) (·.push k)) (λ_ s2=>R (.yield ⟨⟩) s2) E s') E s->wpAny e_ X.A.in1.in1 (body x ⟨⟩) R E s):
  ∀{ds:b!} {us:h!} {kd:b!} {ku:h!} {n:Nat} {ks:fN!} {s:Shared} {G H:Hp},Inv X (O++[er_,Ar!]) Z H s->Cv G H->Paired cO_ ds us->Paired cO_ kd ku->aF g ds=some ks->
   (∀H':Hp,H' c=none->Qs X O H' c)->p5_+f_<=1000->
   (∀s' H' G' pv sn n',Inv X (O++[er_,(c,seqObj "list" (ku++pv).toArray n')]) Z H' s'->Ev G H G' H'->Paired (Fu X.K G') (kd++sn) (ku++pv)->Paired p6! sn ks->Q ⟨⟩ s')->
   wpAny e_ X.A.in1.in1 (forIn us ⟨⟩ body) Q E s
 |_,_,kd,ku,n,ks,s,G,H,I,sub,.nil,pk,e,st,hl,hq=>by
  rw[HC];cases e;refine AC (hq s H G [] [] n ?_ aM! ?_ .nil)
  .rw[BL];exact I
  .rw[BL,BL];exact pk
 |d::ds,u::us,kd,ku,n,ks,s,G,H,I,sub,.cons r t,pk,e,st,hl,hq=>by
  show"!r";obtain⟨v,rv,ru⟩:=r;rw[FH];simp only[AR]at hl;refine AA (oo u _ s (Gq (b9u (vs:=[v]) (Q:=λv' H'=>∃G',Ev G H G' H'/\Bn X.K G' x v') F hr J I.env0.in1.in1 I uu_ ⟨k8.symm,G,[d],x,sub,Bb.cons rv Bb.nil,e1,λv' G' H' x' r'=>⟨G',x',r'⟩⟩) λkv s1 ⟨v1,H1,I1,SE,G1,x1,r1⟩=>?_));have pc:=I1.pin Ar! fO_;refine GT pc.1 rfl ?_ la! (by simp only[Array.size_push,AJ];rw[CI];omega);have e4:=HZ pc.1 (·.push kv);have I2:=d0k (oc':=seqObj "list" (ku++[kv]).toArray (if(ku.toArray.push kv).size==ku.toArray.size then n else n+1)) (t':=s1.toks) I1 (st H1 pc.2.1) io (λb o J e=>(ud!).trans e) (by rw[e4,List.push_toArray]) uZ_;refine qZ F hr J k8 io oo I2 x1.sub (Paired.mapP t λ_ _ z=>z.mono x1.g) (Rj (Paired.mapP pk λ_ _ z=>z.mono x1.g) (.cons ⟨v1,r1,SE⟩ .nil)) e3 st y4! λs' H' G' pv sn n' I' x' p' k'=>?_;refine hq s' H' G' (kv::pv) (x::sn) n' ?_ (x1.trans x') ?_ (.cons e2 k')
  .rw[CN]at I';exact I'
  .rw[CN,CN]at p';exact p'
end
noncomputable def Qh(g:X!)(d:D):Int×Int:=((g [d]).bind Yo).getD (0,0)
theorem mR{g:X!}:∀{ds:b!} {ks:fN!},aF g ds=some ks->ks=ds.map es!
 |[],_,e=>by cases e;rfl
 |d::r,ks,e=>by
  show"!r";rw[AK,<-mR e3];congr 1;unfold Qh;rw[e1];show q=(Yo x).getD _;rw[e2];rfl
section
variable{X:Cx}{O:List (Addr×Obj)}{Z:St}{G H:Hp}{s:Shared}{A:Around}{E:Value->Shared->Prop}
theorem lX{P:Value->D->Prop}{R:D->Value->Prop}:∀{ku us:h!} {ds:b!},Paired P ku ds->Paired R ds us->∀q∈(hN!).zip ds,P q.1.1 q.2/\R q.2 q.1.2
 |_,_,_,.nil,.nil,q,h=>by simp at h
 |_,_,_,.cons p t,.cons r u,q,h=>by
  rw[GY,GY]at h;rcases AD.mp h with rfl|h
  .exact⟨p,r⟩
  .exact lX t u q h
theorem Ri{α β γ:Type}{R:cR!}{f:γ->α}{h:γ->β}:∀{l:List γ},(∀q∈l,R (f q) (h q))->Paired R hN_ (l.map h)
 |[],_=>.nil
 |q::r,hh=>.cons (hh q (AM ..)) (Ri λz hz=>hh z k2!)
theorem Mv{α β:Type}{R:cR!}:∀{l:N_} {m:dz!},Paired R l m->ai_=m.length
 |_,_,.nil=>rfl
 |_,_,.cons _ t=>by rw[AR,AR,Mv t]
theorem gG{G:Hp}{kf:D->Int×Int}(hp:∀d u a b,Fu X.K G d u->Yo d=some Y!->Oq h u a b):∀{kd:b!} {ku:h!} {ds:b!},Paired cO_ kd ku->Paired p6! kd (ds.map kf)->Paired (λv d=>Oq h v (kf d).1 (kf d).2) ku ds
 |_,_,[],.nil,_=>.nil
 |_,_,_::_,.nil,h=>by cases h
 |_,_,[],.cons _ _,h=>by cases h
 |_,_,_::_,.cons r t,.cons k u=>.cons (hp _ _ _ _ r k) (gG hp t u)
theorem c9s{st:SortSt}{us':h!}{ku:h!}{e e1:Nat}{P:lb!}(yk:(z_).map B_=ok_)(hz:us'.length<64)(LU:p5_<64)(hf:failedOf st=none)(io:a≠c)
  (gc:p7!)(j6:At!)(I:Au!)
  (hP:∀s' n',Inv X O Z H s'->s'.heap.get? a=some hO!->P hO_ s'):wpAny e_ A Av! P E s:=by
 have pa:=I.pin lb_ fO_;have pc:=I.pin At_ fO_;unfold ksk_tail;show"#0";rw[yk];refine AA (GT pc.1 rfl ?_ la! cj!);refine AA (IB ?_);have ea:(s.heap.update c Aw!).get? a=some p7_:=(CP _ _ (AI io)).trans pa.1;refine AA (seqEpoch_at ea rfl ?_);show"#(";refine AA (GT ea rfl ?_ cj! la!);rw[hf];simp only[IZ,BH,BW];have I1:Inv X O Z H s:=I.unpinned;refine AC (hP _ _ (Sx (wr:=[a,c]) (t':=s.toks) I1 lA_ λb o J q=>?_) (HZ ea λ_=>ok_))
 .rcases AD.mp J with rfl|J
  .exact gc H pa.2.1
  .rw[lc!];exact j6 H pc.2.1
 .have B:b≠a:=λz=>J (by rw[z];exact AM ..);have Y:b≠c:=λz=>J (by rw[z];exact AE _ (AM ..));exact(CP _ _ (AI B)).trans ((CP _ _ (AI Y)).trans q)
theorem d6a{g:X!}{ds:b!}{us ku:h!}{e e1:Nat}{P:lb!}(m7:f_<64)(nd:(ds.map es!).Nodup)(io:a≠c)
  (gc:p7!)(j6:At!)(I:Au!)(sub:M_)
  (pu:p8!)(pk:Paired cO_ kd ku)(kk:Paired p6! kd (ds.map es!))
  (hP:∀s' us' n',Inv X O Z H s'->Paired cO_ p8_ us'->s'.heap.get? a=some hO!->P hO_ s'):wpAny e_ A (ksk_end a false us.toArray e1 (.ref c) ku.toArray) P E s:=by
 have z:=gG (X:=X) (h:=s.heap) (λd u a b r q=>yN I sub r q) pk kk;have l1:ap_=f_:=(Mv pu).symm;have l2:p5_=f_:=Mv z;have mem:=lX z pu;have jl:(lc_).toList=(hP_).map a_:=by
  rw[ksk_zip,Ax!]
 have hd:(hP_).map B_=ds:=List.map_snd_zip p9!;have fin:∀{L':k9!} {st:SortSt},L'.Perm hP_->(z_).toList=L'.map a_->L'.map B_=Rc es! ds->failedOf st=none->wpAny e_ A Av! P E s:=λ{L' st} B Y h3 h4=>by
  refine c9s (us':=L'.map (·.1.2)) ?_ (by rw[AW,B.length_eq,CU,CU];omega) a! h4 io gc j6 I λs' n' I' e'=>hP s' _ n' I' ?_ e'
  .apply Ax_;rw[Array.toList_map,Y,CB];rfl
  .rw[<-h3];exact Ri λq hq=>(mem q (B.mem_iff.mp hq)).2
 unfold ksk_end;show"#0";show"#(";by_cases Y:jY_<2
 .rw[AN Y,AN Y];refine AA ad_;rw[StateT.run_pure];refine AA ad_;show"#0";refine fin (L':=(hN!).zip ds) (FT _) jl ?_ rfl;rw[hd];rw[AJ,l1]at Y
  match ds,Y with
  |[],_=>rfl
  |[x],_=>rfl
  |_::_::r,Y=>simp at Y;omega
 .rw[AH Y,AH Y];rw[AJ]at Y;refine AA (zQ (vs:=ku) Ay! (λz=>by rw[z]at l2;simp at l2;omega) ?_)
  .show"!h"
  .have hsz:(lc_).size=f_:=by rw[<-CH,jl,AW,CU,CU];omega
   have hk:∀q∈(hN!).zip ds,Oq s.heap q.1.1 (qa_).1 (qa_).2:=λq hq=>(mem q hq).1;have fq:(hQ!).Nodup:=by rw[hd];exact nd
   refine AA (CZ (b2r (kd:=b9b true) (a0:=ku.toArray.zip cA_) (r:=λp=>Rg hQ! Ay_) (Q:=λ_ h1=>(y_).Perm lc_/\failedOf h1=none/\Up (λp=>Rg hQ! Ay_) y_ (lc_).size)
    (Az!) Az_ AA! AA_ λh1 a1 a2 a3=>AB!) ?_ λ_ _ e=>e)
   .rw[jl]at L hy;obtain⟨p,hp,rfl⟩:=AX.mp L;obtain⟨q,a7,rfl⟩:=AX.mp hy;refine mT le! le_ ?_;have mm:∀p∈(hN!).zip ds,Qh g p.2∈((hP_).map B_).map es!:=λp hp=>AO (AO hp);have hh:decide AC!=Vb (Qh g p.2) qa_:=by
     show"#A"
    have sv:Q (decide AC!) s:=hq;rw[hh]at sv;exact sv
   .show"!G";exact fin b1 b2 AD! a2
theorem c9p{k:Nat}{ps:p!}{g:X!}(F:Aq_)(hr:p5!)(J:jG_)(k8:S_=1)
  {us:h!}{ds:b!}{n:Nat}{ks:fN!}{P:lb!}(I:d!)(sub:M_)(pu:p8!)(ha:AD_)(ip:hY_)
  (gc:p7!)(ek:aF g ds=some ks)(nd:hp!)(m7:f_<64)
  (hP:∀s' H' G' us' n',Inv X O Z H' s'->Ev G H G' H'->Paired (Fu X.K G') p8_ us'->H' a=none->s'.heap.get? a=some hO!->P hO_ s'):
  wpAny e_ X.A.in1.in1 (ksk_tree a ah_ false) P E s:=by
 have l1:ap_=f_:=(Mv pu).symm;have SF:=mR ek;obtain⟨e1,sw⟩:∃e1,(s.heap.update a (Obj.mapSeq λ_=>(#[]:Array Value))).get? a=some (seqObj "list" #[] e1):=AE!;unfold ksk_tree;refine AA Aw_;refine AA AE_;refine AA AF!;refine AA AF_;refine AA (JJ ?_ cj!);refine CC ?_;have hsz:(cp!).objs.size=q!+1:=by rw[size_push',Heap.size_update]
 show wpAny _ _ (ksk_rest a ah_ false us.toArray e1 (.ref (cp!).objs.size)) P E {s with heap:=(cp!).push cp_};have ju:(qb_).get? (cp!).objs.size=some cp_:=BD _ rfl;rw[hsz]at ju ⊢;have io:a≠q!+1:=BV (Nat.lt_succ_of_lt (BF ha));have j6:∀H':Hp,H' ad!=none->Qs X O H' ad!:=λH' q=>I.fpOk (HK _) q;have lj:(qb_).get? a=some p7_:=AG _ (AG _ sw);have I1:Inv X O Z H {s with heap:=(cp!).push cp_}:=
  Sx (wr:=[a]) (t':=s.toks) I (λb J=>by rw[lc!];exact gc H ip) λb o J q=>AG _ AG_
 have fa:=gc H ip;have fc:=j6 H tf_;have I2:Inv X (O++[lb_,(q!+1,seqObj "list" (uY!).toArray 0)]) Z H {s with heap:=(cp!).push cp_}:=I1.pins_of λp hp=>by
  rcases AQ.mp hp with z|z
  .exact I1.pin p (AS _ z)
  .rcases AD.mp z with rfl|z
   .exact⟨lj,ip,fa.2.1,fa.2.2.1,jt_⟩
   .rw[bY!];exact⟨ju,fc.1,fc.2.1,fc.2.2.1,jt_⟩
 generalize q!+1=c at *;unfold ksk_rest;refine AA hf_
 first
  |rw[List.forIn_toArray]
  |(rw[<-Array.forIn_toList];simp only[List.toList_toArray])
  |rw[<-Array.forIn_toList]
 refine AA (CZ (qZ (E:=u0_) (Q:=λ_ s'=>wpAny e_ X.A.in1.in1 _ P E s') F hr J k8 io (λx R s' L=>?_) I2 sub pu .nil ek j6 (by rw[EW];omega) λs' H' G' pv sn n' I' x' p' k'=>?_) Aa! λ_ _ z=>z.elim)
 .refine AA (HA (CZ L (λkv s2 hk=>?_) λ_ _ z=>z.elim));show"#0";exact AA (CZ hk (λ_ s3 z=>AC z) λ_ _ z=>z)
 .rw[CT]at I';rw[CT,CT]at p';have pc:=I'.pin (c,seqObj "list" pv.toArray n') fO_;have pa:=I'.pin lb_ fO_;refine AA (IJ pc.1 rfl ?_);rw[SF]at k' nd;exact d6a m7 nd io gc j6 I' x'.sub (Paired.mapP pu λ_ _ z=>z.mono x'.g) p' k' λs3 us' n3 I3 p3 e3=>hP s3 H' G' us' n3 I3 x' p3 pa.2.1 e3
noncomputable def c5h(g:X!)(ds:b!):Option aL_:=(aF g ds).bind λks=>if hp!/\f_<64 then some p8_ else none
noncomputable def a4i(g:X!)(fa:e!):Ag->Option D:=λρ=>(fb!).bind λd=>match d with
 |.lst ds=>(c5h g ds).map D.lst
 |_=>none
theorem Vo{K:W.Frag}:∀{ds:b!} {vs:l_} {us:h!},Bb K G ds vs->Ci vs us->Paired fP_ ds us
 |[],vs,us,r,p=>by cases Fp r;cases p;exact .nil
 |d::ds,vs,us,r,p=>by
  obtain⟨v,t,rfl,r1,r2⟩:=Dg r;cases p with
  |cons a b=>exact .cons ⟨v,r1,a⟩ (Vo r2 b)
theorem Vv{K:W.Frag}:∀{ds:b!} {us:h!},Paired fP_ ds us->∃vs,Bb K G ds vs/\Ci vs us
 |_,_,.nil=>⟨[],Bb.nil,.nil⟩
 |_,_,.cons ⟨v,r,p⟩ t=>let⟨vs,r2,p2⟩:=Vv t;⟨v::vs,Bb.cons r r2,.cons p p2⟩
theorem a5r{us':h!}{n':Nat}{s0:Shared}{H0:Hp}{ds:b!}{Q:VK}(I0:Inv X O Z H0 s0)(I:d!)(sub:M_)(hs:zI_<=a)(pu:Paired cO_ ds us')(hz:f_<=sizeLine)(ho:s.heap.get? a=some hO!)(hn:hY_)
  (hQ:∀v G' H',Ev G H G' H'->Bn X.K G' cd_ v->Q v H'):EP X O Z Q ac! s:=by
 obtain⟨vs,r,p⟩:=Vv pu;have f:=I0.fpOk hs hn;refine⟨dQ_,upd H a dd!,I.track ho p (by rw[<-Ar r];exact hz) hn ?_ f.2.1 f.2.2.2.2.1 f.2.2.2.2.2,rfl,hQ _ _ _ (Ev.laid sub hn) ?_⟩
 .exact BN I0.sz hs
 .exact Bn.lst (Kw.of Dq) (r.mono (λb u e=>by rw[Bt (λz=>by rw[z]at e;rw[sub _ _ e]at hn;cases hn)];exact e))
theorem rY:bootBuiltins "sorted"=some lh!:=by decide+kernel
theorem sJ{us:h!}{Q:p_}(hl:s.heap.IsList l cA_)(hz:ap_<64)
  (h:wpAny e_ X.A.in1.in1 (ksk_tree ad! ah_ false) (λfin s'=>∃v,fin=.done (.ret v)/\Q (.ref ad!) s') E {s with heap:=(hR_).push hS!}):
  wpAny e_ X.A (call lh! [.ref l] [(Str.ofString "key",.ref f)]) Q E s:=by
 refine call_function_entry_kw kind_sorted plain_sorted entry_sorted (wE _ _) ?_;unfold Builtin.«sorted»;refine AA (m:=qd!) ad_;refine AA (collect_list hl ?_ qd_);refine AA (JJ ?_ qd_);have hsz:(hR_).objs.size=q!+1:=by
  rw[Heap.size_update,size_push']
 have kh:((hR_).push hS!).get? ad!=some hS!:=by
  rw[<-hsz];exact BD _ rfl
 show wpAny _ _ _ _ _ {s with heap:=(hR_).push hS!};rw[hsz];refine AA (CC (wpAny_call_entry_kw slot_list_sort qe! entry_list_sort ?body (a4v _ _)))
 case body=>
  rw[ksk_t1];refine CZ h (λfin s' hq=>?_) λ_ _ z=>z;obtain⟨v,rfl,hq⟩:=hq;exact⟨v,rfl,AC ⟨_,rfl,hq⟩⟩
variable{own:List Nat}{fa:Ag->Option D}{e:Expr}{pos p p2 kp:Pos}{x:Str}
theorem b7n{k:Nat}{ps:p!}{g:X!}(F:wy!)(hr:p5!)(SG:R_)(ym:Gl X "sorted")(SH:X.mg "sorted"=none)(ha:DE X own e fa)(k8:S_=1:=by rfl)(bc:G!:=by decide)
  (he:jT_:=by rfl):
  DE X own (.Call (.Name "sorted" p) [e] [⟨some "key",cE!,kp⟩] pos) (a4i g fa):=⟨by
 obtain⟨σ,fd,B,Y,h3,h4⟩:=F;intro O s Z H Q I ⟨G,ρ,d,er,e1,kq⟩;obtain⟨d0,e2,e1⟩:=AB.mp e1;cases d0 with
 |lst ds=>
  obtain⟨rc,e3,rfl⟩:=AL.mp e1;obtain⟨ks,e4,e5⟩:=AB.mp e3;have pf:hp!/\f_<64:=by
   by_cases z:hp!/\f_<64
   .exact z
   .rw[AH z]at e5;cases e5
  rw[AN pf]at e5;cases e5;have da:=(Ai ha Aw he).ok;refine EU (Wm I ym SH rY ?_ c! c!);refine callWith_kw (Gq (da pos O s Z H _ I ⟨G,ρ,[.lst ds],er,by unfold Ad Ao;rw[e2];rfl,λvs G1 H1 x1 r1=>(⟨G1,x1,r1⟩:∃G1,Ev G H G1 H1/\Bb X.K G1 [.lst ds] vs)⟩) λus s1 ⟨vs,H1,I1,r,G1,x1,r1⟩=>?_) qg! qg! rfl rfl;refine kws_cons (Tr I1 SG h3 (kws_nil ?_) bc);obtain⟨v,t,rfl,rv,rr⟩:=Dg r1;cases Fp rr;obtain⟨l,xs,rfl,sq,rx⟩:=De rv;obtain⟨its,hv,pl,hz⟩:=I1.list (x1.sub.seq sq);cases r with
  |cons ra rb=>
   cases rb;cases ra;show wpAny e_ X.A (call lh! [.ref l] [(Str.ofString "key",.ref σ)]) _ _ s1;have lz:e0_=f_:=by rw[<-hv.length,<-Ar rx]
   obtain⟨nn,sl,ho⟩:=Zv pl;refine sJ (us:=its) ⟨_,ho,rfl,nn,rfl⟩ (by rw[lz];exact pf.2) ?_;have keep:∀b o,s1.heap.get? b=some o->(qh_).get? b=some o:=λb o q=>by
    have am:b<D!:=BF q;exact AG _ ((Heap.get?_update_ne _ _ _ _ (BV am)).trans ((Heap.get?_push_ne _ _ _ (BV am)).trans q))
   have hsz:(qg_).objs.size=D!+1:=by
    rw[Heap.size_update,size_push']
   have kh:(qh_).get? (D!+1)=some qh!:=by
    rw[<-hsz];exact BD _ rfl
   have I2:=I1.kept (t':=s1.toks) keep;have b6:D!<=D!+1:=HK _;refine c9p B hr Y k8 I2 x1.sub (Vo rx hv) kh (I1.hok.fresh b6) (λH' q=>I1.fpOk b6 q) e4 pf.1 pf.2 λs3 H3 G3 us3 n3 I3 x3 p3 SI yn=>ov!;exact a5r I1 I3 x3.sub b6 p3 qi_ yn SI λv G4 H4 x4 r4=>kq v G4 H4 (x1.trans (x3.trans x4)) r4
 |_=>cases e1⟩
end
theorem a5q{es:aa_}{ep:Nat}(hd:zx_):W.KdlSrc P w "dict" d d es.length pJ! (λh=>fV h d es ep) where
 type:=λ_ hm=>hm.typeIs
 there:=λ_ hm=>let⟨_,ho,_⟩:=hm;⟨BF ho,BF ho⟩
 keep:=λ_ _ hm hk=>hm.at λo e=>hk d aH! o e
 notList:=by decide
 notTuple:=by decide
 hint:=λ_ _ _ _ hm hq=>W.kdl_hint_dict hm.typeIs hq
 iter:=λ_ _ hh hm=>⟨_,_,(λ_ _ hq=>b6j hd hm hq),a8l hh _ d (let⟨_,ho,_⟩:=hm;BV h1!) es ep,⟨eG!,hm.at λo e=>AG _ e⟩⟩
section
variable{X:Cx}{O:List (Addr×Obj)}{Z:St}{G H:Hp}{s:Shared}{A:Around}{E:Value->Shared->Prop}
theorem c6x{K:W.Frag}{kvs:h_}{es:aa_}{acc:ab_}(ok:fv!)(hi:ql!):Paired fP_ fu_ hV!:=by
 have ea:hV!=es.map kn_:=by
  apply JB;intro i;rw[BS];by_cases h:i<ag!
  .have B:i<acc.size:=by rw[hi.1];exact h
   show"!i"
  .rw[qk_,CJ a!];rfl
 rw[ea];have:∀{kvs:h_} {es:aa_},Paired qm_ kvs es->Paired fP_ fu_ eu!:=λ{kvs es} h=>by
  induction h with
  |nil=>exact .nil
  |cons a _ ih=>exact .cons a ih
 exact this qm!
noncomputable def aQ(d:D):Int×Int:=(Yo d).getD (0,0)
noncomputable def b2g(ds:b!):Option aL_:=if lm_=true/\(ln!).Nodup/\f_<64 then some ln_ else none
theorem c9o{us:h!}{ds:b!}{n:Nat}{P:lb!}(I:d!)(sub:M_)(pu:p8!)(ha:AD_)(ip:hY_)
  (gc:Qs X O H a)(ek:lm_=true)(nd:(ln!).Nodup)(m7:f_<64)
  (hP:∀s' us' n',Inv X O Z H s'->Paired cO_ ln_ us'->s'.heap.get? a=some hO!->P hO_ s'):
  wpAny e_ A (Builtin.«list.sort» nh_) P E s:=by
 have l1:ap_=f_:=(Mv pu).symm;obtain⟨e1,sw⟩:∃e1,(s.heap.update a (Obj.mapSeq λ_=>(#[]:Array Value))).get? a=some (seqObj "list" #[] e1):=AE!;rw[list_sort_plain];refine AA Aw_;refine AA AE_;refine AA AF!;refine AA AF_;refine AA (JJ ?_ cj!);refine CC ?_;show wpAny _ _ _ P E {s with heap:=(cp!).push cp_};have I1:Inv X O Z H {s with heap:=(cp!).push cp_}:=
  Sx (wr:=[a]) (t':=s.toks) I qn_ λb o J q=>AG _ AG_
 have lj:(qb_).get? a=some p7_:=AG _ (AG _ sw);generalize (cp!).push cp_=h3 at I1 lj ⊢;have pk:∀d∈ds,Yo d=some (aQ d):=λd hd=>by
  have:=DU.mp ek d hd;unfold aQ;cases q:Yo d with
  |none=>rw[q]at this;cases this
  |some z=>rfl
 have z:Paired qo! us ds:=by
  have gen:∀{ds:b!} {us:h!},Paired cO_ ds us->(∀d∈ds,Yo d=some (aQ d))->Paired qo! us ds:=λ{ds us} h=>by
   induction h with
   |nil=>exact λ_=>.nil
   |cons r _ ih=>exact λhk=>.cons (yN I1 sub r (hk _ (AM ..))) (ih λd hd=>hk d (AE _ hd))
  exact gen pu pk
 have mem:=lX z pu;have jl:(fS_).toList=(eu_).map a_:=by
  rw[ksk_zip,Ax!]
 have hd:(eu_).map B_=ds:=List.map_snd_zip p9!;have fin:∀{L':k9!} {st:SortSt},L'.Perm eu_->(z_).toList=L'.map a_->L'.map B_=Rc aQ ds->failedOf st=none->
   P hO_ {s with heap:=h3.update a (Obj.mapSeq λ_=>(z_).map B_)}:=λ{L' st} b1 b2 b3 b4=>by
  have yk:(z_).map B_=(qp_).toArray:=by
   apply Ax_;rw[Array.toList_map,b2,CB];rfl
  rw[yk];refine hP _ _ _ (Sx (s:={s with heap:=h3}) (wr:=[a]) (t':=s.toks) I1 qn_ λb o J q=>(AG!).trans q) ?_ (HZ lj λ_=>(qp_).toArray);rw[<-b3];exact Ri λq hq=>(mem q (b1.mem_iff.mp hq)).2
 have ML:∀{L':k9!} {st:SortSt},L'.Perm eu_->(z_).toList=L'.map a_->((z_).map B_).size<=sizeLine+1:=λ{L' st} b1 b2=>by
  rw[Array.size_map,<-CH,b2,AW,b1.length_eq,CU,CU,CI];omega
 by_cases Y:jY_<2
 .rw[AN Y,AN Y];refine AA ad_;show"#0";rw[StateT.run_pure];refine AA ad_;show"#0";refine AA qq!;refine AA (GT lj rfl ?_ cj! (ML (L':=(fT!).zip ds) (FT _) jl));simp only[failedOf,IZ,BH,BW];refine AC (fin (L':=(fT!).zip ds) (st:=SortSt.mk' general' fS_ #[] 7 none) (FT _) jl ?_ rfl);rw[hd];rw[AJ,l1]at Y
  match ds,Y with
  |[],_=>rfl
  |[x],_=>rfl
  |_::_::r,Y=>simp at Y;omega
 .rw[AH Y,AH Y];rw[AJ]at Y;refine AA (zQ (vs:=us) Ay! (λz=>by rw[z]at Y;simp at Y) ?_)
  .show"!h"
  .have hsz:(fS_).size=f_:=by rw[<-CH,jl,AW,CU,CU];omega
   have hk:∀q∈(fT!).zip ds,Oq h3 q.1.1 (aQ q.2).1 (aQ q.2).2:=λq hq=>(mem q hq).1;have fq:(fT_).Nodup:=by rw[hd];exact nd
   refine AA (CZ (b2r (kd:=b9b true) (a0:=us.toArray.zip cA_) (r:=λp=>Rg fT_ (Wu h3 p.1)) (Q:=λ_ h1=>(y_).Perm fS_/\failedOf h1=none/\Up (λp=>Rg fT_ (Wu h3 p.1)) y_ (fS_).size)
    (Az!) Az_ AA! AA_ λh1 a1 a2 a3=>AB!) ?_ λ_ _ e=>e)
   .rw[jl]at L hy;obtain⟨p,hp,rfl⟩:=AX.mp L;obtain⟨q,a7,rfl⟩:=AX.mp hy;refine mT le! le_ ?_;have mm:∀p∈(fT!).zip ds,aQ p.2∈((eu_).map B_).map aQ:=λp hp=>AO (AO hp);have hh:decide qs!=Vb (aQ p.2) (aQ q.2):=by
     show"#A"
    have sv:Q (decide qs!) {s with heap:=h3}:=hq;rw[hh]at sv;exact sv
   .show"!G";refine AA qq!;refine AA (GT lj rfl ?_ cj! (ML b1 b2));rw[a2];simp only[IZ,BH,BW];exact AC (fin b1 b2 AD! a2)
noncomputable def b3b(f:List V->VK->Hp->Prop):List V->Hp->VK->Prop:=λxs H Q=>∃d es ep ys,xs=[.ref d]/\H d=some du!/\Ci ys eu!/\f ys Q H
theorem gW{es:aa_}{acc:ab_}(hi:ql!):hV!=es.map kn_:=by
 apply JB;intro i;rw[BS];by_cases h:i<ag!
 .have B:i<acc.size:=by rw[hi.1];exact h
  show"!i"
 .rw[qk_,CJ a!];rfl
theorem pN(hc:be!):Ph X a6_ qs_:=by
 intro O s Z H xs us Q I r ⟨d,es,ep,ys,e1,e2,hv,k⟩;subst e1;cases r with
 |cons ra rb=>
  cases rb;cases ra;obtain⟨⟨h3,h4,h5⟩,_⟩:=qt!;refine W.kdl_call (a5q h4) bJ_ h3 fz_ λh' tk acc c hk hs hi=>?_;have hn:H q!=none:=I.hok.fresh x_;have f:=I.fpOk (H':=H) x_ hn;refine⟨c6!,upd H s.heap.objs.size a6!,?_,rfl,k _ hn⟩;have ia:=gW hi;refine(I.kept (t':=tk) hk).track (us:=hV!) (n:=c) (by rw[Array.toArray_toList];exact hs) (by rw[ia];exact hv) ?_ hn I.sz f.2.1 f.2.2.2.2.1 f.2.2.2.2.2;rw[hv.length,AW];exact Fg h5
noncomputable def mS(M:Mh):List D->Option D
 |[d]=>(Ip M d).map λq=>.lst hG_
 |_=>none
theorem qY{K:W.Frag}{kvs:h_}{es:aa_}(ok:fv!):∃ys,Bb K G fu_ ys/\Ci ys eu!:=by
 have:∀{kvs:h_} {es:aa_},Paired qm_ kvs es->Paired fP_ fu_ eu!:=λ{kvs es} h=>by
  induction h with
  |nil=>exact .nil
  |cons a _ ih=>exact .cons a ih
 exact Vv (this qm!)
theorem b7x{K:W.Frag}:oA P w K qs_ mS:=by
 show"!T";unfold mS at e;show"!7"
 .obtain⟨q,e1,rfl⟩:=AL.mp e;show"!?";exact⟨q.1,es,q.2.2,ys,rfl,B,g2,λl hl=>k _ _ _ yO! (Fi (sub.free hl) g1)⟩
 .cases e
noncomputable def b3a(K:W.Frag):List V->Hp->VK->Prop:=λxs H Q=>∃G ds,Cv G H/\(∃d es ep,xs=[.ref d]/\H d=some du!/\Paired fP_ ds eu!)/\lm_=true/\(ln!).Nodup/\f_<64/\∀v G' H',Ev G H G' H'->Bn K G' (.lst ln_) v->Q v H'
theorem pM(hc:be!):Ph X lh! (b3a X.K):=by
 intro O s Z H xs us Q I r ⟨G,ds,sub,⟨d,es,ep,e1,e2,hv⟩,q1,q2,q3,k⟩;subst e1;cases r with
 |cons ra rb=>
  cases rb;cases ra;obtain⟨⟨h3,h4,h5⟩,_⟩:=qt!;have lz:ag!=f_:=by rw[Mv hv,AW]
  refine Calls.call_function_entry kind_sorted plain_sorted entry_sorted (args_sorted1 _) ?_;unfold Builtin.«sorted»;refine AA (m:=qd!) ad_;refine AA (W.kdu_collect (a5q h4) bJ_ h3 fz_ λh' tk acc hk hi=>?_);have ia:=gW hi;refine AA (JJ ?_ (by rw[ia,AW,CI];omega));rw[ia];have I1:=I.kept (t':=tk) hk;have kh:(h'.push hY!).get? h'.objs.size=some hY!:=BD _ rfl;have I2:Inv X O Z H {s with heap:=h'.push hY!,toks:=tk}:=I1.kept (t':=tk) λb u q=>AG _ q;have hn:H h'.objs.size=none:=I1.hok.fresh x_;refine AA (CC (BX slot_list_sort qe! entry_list_sort ?body (args_list_sort _)))
  case body=>
   refine c9o (s:={s with heap:=h'.push hY!,toks:=tk}) I2 sub hv kh hn (I1.fpOk x_ hn) q1 q2 q3 λs3 us3 n3 I3 p3 yn=>⟨_,rfl,AC ov!⟩;exact a5r I1 I3 sub x_ p3 qi_ yn hn k
noncomputable def kK(M:Mh):List D->Option D
 |[d]=>(Ip M d).bind λq=>(b2g hG_).map D.lst
 |_=>none
theorem b7v{K:W.Frag}:oA P w K (b3a K) kK:=by
 show"!T";unfold kK at e;show"!7"
 .obtain⟨q,e1,e⟩:=AB.mp e;obtain⟨l,e2,rfl⟩:=AL.mp e;unfold b2g at e2;split at e2
  .rename_i hz;cases e2;show"!?";exact⟨G,_,sub,⟨q.1,es,q.2.2,rfl,B,Vo g1 g2⟩,hz.1,hz.2.1,hz.2.2,k⟩
  .cases e2
 .cases e
end
noncomputable def a2q(M:Mh):D->D
 |.fn a=>match M a with|some (.lst xs)=>.lst xs|_=>.fn a
 |d=>d
noncomputable def neM(M:Mh)(x y:D):Option D:=Fw (a2q M x) (a2q M y)
theorem a6b{P:Program}{w:World}{K:W.Frag}{M:Mh}{G H:Hp}(sub:M_)(m:cl_)(r:cD!):Bn K H (a2q M d) v:=by
 cases d<;>first|exact r.mono sub|skip
 rename_i a;simp only[a2q];split
 .rename_i xs hM;show"!|";cases Ly r;exact Bn.lst (Kw.of B) (Y.mono sub)
 .exact r.mono sub
theorem lN{P:Program}{w:World}{K:W.Frag}:OpM P w K (c5q K) neM:=by
 show"!`";unfold neM Fw at e;show"!7"
 .show"!t";cases e;exact⟨_,_,a6b sub m rx,a6b sub m ry,h.1.1,h.1.2,h.2,ec_⟩
 .cases e
noncomputable def Fz(K:W.Frag)(C:Addr)(m qual:Str)(st:Stmt)(ps:p!):Prop:=∃σ fd,Fun K m qual st σ fd/\Jx K fd ps []/\b1g K C m σ
noncomputable def a1l(K:W.Frag)(mg:A!)(x:Str)(C:Addr)(qual:Str)(st:Stmt)(ps:p!):Prop:=mg x=some at!/\∃σ fd,Fun K "__init__" qual st σ fd/\Jx K fd ps []/\Mk K C σ
section
variable{P:Program}{w:World}{K:W.Frag}{mg:Str->Option Value}{base h:Heap}{x qual:Str}{st:Stmt}{N ps:List Str}{k:Nat}{h2:List Nat}{q:WS}{C:Addr}
theorem Ec(d:xA_)(S:dZ!)
  (J:∀{σ:Addr} {af:Value} {A:Around} {outer:aq_} {s:Shared} {H:Hp} {E:XK},Ax k oN!->MSs (oN_).nox [] h2 bP_ q):
  Ve P w K mg base S! x ps kS!:=by
 obtain⟨σ,fd,F,hb,m⟩:=d;exact⟨σ,fd,lr_,hb,m,F.kp⟩
theorem Eb(c:Cls K C)(d:Fz K C x qual st ps)(S:dZ!)
  (J:qx!):
  Hl P w K mg base S! C x ps kS!:=by
 obtain⟨σ,fd,F,hb,m⟩:=d;exact⟨c,σ,fd,m,lr_,hb⟩
theorem tV(d:a1l K mg x C qual st ps)(S:dZ!)
  (J:qx!):
  b1f P w K mg base S! x C ps kS!:=by
 obtain⟨m,σ,fd,F,hb,mk⟩:=d;exact⟨m,σ,fd,mk,lr_,hb⟩
theorem Gs{od an:a5!}{dt:b8!}{kV:Value}
  (a:W.findIn K at! x=some eN_)(i:mz_)(l:uJ!)
  (c:iS_)(k:gJ!)
  (b:uI_):Fz K C x qual st ps:=
 ⟨f,_,kh_,oP!,⟨a,i,k⟩⟩
theorem b5m{od an:a5!}{dt:b8!}{kV:Value}(m:mg x=some at!)
  (a:sF_)(i:mz_)(l:K.lookup f=some ⟨oc,od,.func qy!,dt⟩)
  (c:iS_)(k:gJ!)(mm:sG!)(kc:W.keepIn K at!=true)
  (b:∀(kV bn pm:Value) (an:a5!) (af ct:Value) (us:h!),ap_=S_->bindArgs qy! c5!=pure c4!):a1l K mg x C qual st ps:=
 ⟨m,f,_,kh_,oP!,⟨mm,a,i,kc⟩⟩
theorem c1m(hd:c8x K mg x st [y])(S:As N [y] bA_)(gc:mg x=some e1_)
  (J:∀(base:Heap) (σ:Addr) (af:Value) (A:Around) (outer:aq_) (s:Shared) (H:Hp) (E:XK),Ax k oN!->MSs (oN_).nox [] h2 bP_ q):
  ∃fd:FuncData,(∀(s:Shared) (u:Value),BindsTo s fd jj! [(y,u)])/\∀base:Heap,K.In base->base.Ns mainGlobals mg->Ks P w K mg base iR S! fa fd [y] (spM P w K 1 (Ex N 1 q)):=by
 obtain⟨f,fd,F,hb,m⟩:=hd;rw[gc]at m;cases m;exact⟨fd,λs u=>.of_eq (hb [u] rfl),λbase _ _=>jH F S λaf A outer s H E hr=>J base _ af A outer s H E hr⟩
theorem Zk{α:Type}{p:fV!}(h:∀a,p [a]):∀us:List α,ap_=1->p us
 |[a],_=>h a
theorem Vd{α:Type}{p:fV!}(h:∀a b,p ai!):∀us:List α,ap_=2->p us
 |[a,b],_=>h a b
theorem us3{α:Type}{p:fV!}(h:∀a b c,p ev_):∀us:List α,ap_=3->p us
 |[a,b,c],_=>h a b c
theorem us4{α:Type}{p:fV!}(h:∀a b c d,p [a,b,c,d]):∀us:List α,ap_=4->p us
 |[a,b,c,d],_=>h a b c d
theorem us5{α:Type}{p:fV!}(h:∀a b c d e,p [a,b,c,d,e]):∀us:List α,ap_=5->p us
 |[a,b,c,d,e],_=>h a b c d e
noncomputable def M0:Mh:=λ_=>none
theorem c1l{g:WF}{H:Hp}{ns:A_}(hS:Kw K H a b9!)(hg:g lu! M0 λd _=>d=.bl true):spM P w K 1 g bg! H jj_ λ_ _ _=>False:=
 ⟨rfl,H,lu!,M0,_,Cv.refl H,⟨λa c e=>by cases e⟩,Bb.cons (Bn.lst hS (rD ns)) Bb.nil,hg,λd M' v G' H' r _ _ q=>by subst r;exact Fk q⟩
end
end DL
namespace L2
open PySem PySem.Spec PyProof.Rows
theorem c0k{X:Cx}{i:Nat}{tg:Expr}{scope:Scope}{pos:Pos}{NL:p!}{ix:k!}{wi:TI}{g:TG}{tt:TT}{te:TE}
  (hN:bt_)(cz:ak_)(L:bu!)
  (ce:da!)(b9:da_)(jy:∀y∈cb_,y.2=.local->scope.names.lookup y.1=some .local)
  (g9:gR!)(cap:c9_)(calm:be!)(bd:mc!)
  (hg:gR_)(hi:u3!)(he:u3_)
  (hs:c2!:=by intro _;rfl)
  (j1:swapsWith hZ_ (some ij_) pos.line X.env=pure true:=by rfl)
  (hf:X.fn x=true\/X.env.scope.names.lookup x=some .local:=by first|exact .inl rfl|exact .inr rfl|assumption):
  PS X (.Assign [.Name x ic] hZ_ pos) (c5g u4! eD_):=by
 intro O s Z H D I h;show"!R"
 rw[exec_Assign_Name_used x ic _ pos j1];refine AA (IA gs_);unfold evalThenUse;refine AA (wpAny_comprehension_free (use:=some _) rfl hs bz.eq ce jy u4_);obtain⟨it,fp,tn,ab,H2,e,I2,T,bf,f2,hw⟩:=Y;subst e;refine rT (RR:=λacc C=>compPost e_ X.A X.xe (some _) _ acc C) ce b9 bz cap calm (hg cl) (hi cl) (he cl) I2 T bf f2 hw λD' C us n ys H' s' I' eD rv al nD hD hC jd nC ⟨m,hn⟩ fin=>?_;have fg:∀b,b<O!->b≠C/\b≠D':=λb J=>u6_;have ox:∀x c,X.env.cells.lookup x=some c->c<O!:=λx c h=>let⟨_,_,ho,_⟩:=I2.cell x c h;BF ho;have qu:∀p∈X.pn++O,p.1<O!:=λp hp=>BF (I2.pin p hp).1;have ID:=I'.track (D:=D') (us:=us) (n:=n) eD rv al nD (BN I2.sz hD) (AI (gS_).2) u9_ λp hp=>(ju!).2;show wpAny e_ X.A (assign ij_ X.env (.ref D')) _ _ s';refine AA (m:=standAt ic) (IA ?_);refine wpAny_bindName (pT ID hN cz L (v:=.ref D') rfl (λs3 I3 ⟨a,sb,ha⟩=>?_) hf);have SJ:a≠C:=by
  rcases ha with rfl|ha
  .exact(gS_).1
  .exact(fg _ (ox _ _ ha)).1
 refine⟨m,hn.sameBut sb (AI SJ),λh' br=>?_⟩;have SK:upd H' D' a6! C=none:=by rw[Bt (AI jd)];exact nC
 have IC:Inv X O (Z.set i (some (.ref D'))) (upd H' D' a6!) {s3 with heap:=h',toks:=s3.toks}:=I3.turned (it:=C) u7_ SK (AI (gS_).1) u8! u9! λp hp=>(ju!).1;exact AC (AC ⟨_,_,IC,fin D' nD⟩)
end L2
namespace DL
open PySem PySem.Spec PyProof.Rows L2
section
variable{X:Cx}{own:List Nat}{tg:Expr}{fi:WI}{ft:WT}
theorem bR{i:Nat}{scope:Scope}{pos p2:Pos}{NL:p!}{ix:k!}{g:TG}{bnd:af_}{fe:WE}
  (hN:bt_)(cz:ak_)(L:bu!)
  (ce:da!)(b9:da_)(jy:∀y∈cb_,y.2=.local->scope.names.lookup y.1=some .local)
  (g9:gR!)(cap:c9_)(mf:jA_)(calm:be!)(bd:pE_)
  (hg:gR_)(mh:n9!)(hi:zs_)(he:zt!)
  (bo:bl_:=by decide)(hs:c2!:=by intro _;rfl)
  (j1:swapsWith hZ_ (some di!) pos.line X.env=pure true:=by rfl)
  (hf:X.fn x=true\/X.env.scope.names.lookup x=some .local:=by first|exact .inl rfl|exact .inr rfl|assumption):
  MS X own own (.Assign [cE!] hZ_ pos) (Ba i zt_):=
 bS (c0k hN cz L ce b9 jy g9 cap calm bd.ok hg hi vX! hs j1 hf) λM0 G0 F0 E Z G H ρ M R sr e k1 k2=>⟨G,ρ,M,_,sr.st,e,λds ck M1 ab G1 H1 r1 x1 m1 fh=>by
  obtain⟨J,r1⟩:=r1;have ow:=sr.st.grow x1 m1;refine a7z J fh mh zu! r1 λje ys M' G' H' r x m q _ p hp=>?_;exact k1 _ M' _ _ _ r ((((zh!).grow x m).grow (.ext g5_) (m.ext g5_)).set bo (Fi n9_ q))⟩
end
end DL
namespace K10
open PySem L2 DL
noncomputable def top(i:Nat):Stmt:=PySem.Challenge.pw_manyhands_k10_whole_played.main.body.getD i qF!
noncomputable def Qq(i j:Nat):Stmt:=match top i with
 |.ClassDef _ _ _ b _ _ _ _ _ _ _=>b.getD j qF!
 |s=>s
structure Bo where
 mk::
 A0:Addr
 A5:Addr
 A6:Addr
 A7:Addr
 A8:Addr
 A9:Addr
 B0:Addr
 B1:Addr
 B2:Addr
 B3:Addr
 B4:Addr
 B5:Addr
abbrev fY:Stmt:=top 11
theorem xF:As o_ o_ (Ah fY):=g!
abbrev gA:Stmt:=top 12
theorem xH:As fX! fX! (Ah gA):=g!
abbrev Vf:Stmt:=top 13
theorem kP:As o_ o_ (Ah Vf):=g!
abbrev jX:Stmt:=top 14
theorem a2h:As o_ o_ (Ah jX):=g!
abbrev Uf:Stmt:=top 15
theorem iC:As o_ o_ (Ah Uf):=g!
abbrev jY:Stmt:=top 16
theorem a2i:As o_ o_ (Ah jY):=g!
abbrev Yv:Stmt:=top 17
theorem oI:As o_ o_ (Ah Yv):=g!
abbrev aY:Stmt:=top 18
theorem sR:As o_ o_ (Ah aY):=g!
abbrev jV:Stmt:=top 19
theorem a2f:As dC! dC! (Ah jV):=g!
abbrev Zn:Stmt:=top 20
theorem a2e:As o_ o_ (Ah Zn):=g!
abbrev fZ:Stmt:=top 21
theorem xG:As o_ o_ (Ah fZ):=g!
abbrev Sz:Stmt:=top 23
theorem sS:As fX_ fX_ (Ah Sz):=g!
abbrev jZ:Stmt:=top 24
theorem a2j:As o_ o_ (Ah jZ):=g!
abbrev Ug:Stmt:=top 25
theorem iD:As o_ o_ (Ah Ug):=g!
abbrev Rv:Stmt:=top 26
theorem dY:As bF_ bF_ (Ah Rv):=g!
abbrev gB:Stmt:=top 27
theorem xI:As aX_ aX_ (Ah gB):=g!
abbrev qA:Stmt:=Qq 29 0
theorem a9b:As aO_ aO_ (Ah qA):=g!
abbrev bA:Stmt:=Qq 29 1
theorem sT:As K! K! (Ah bA):=g!
abbrev Qv:Stmt:=Qq 29 2
theorem Lv:As qH! lx_ (Ah Qv):=g!
abbrev Uh:Stmt:=Qq 29 3
theorem Ov:As qH_ K! (Ah Uh):=g!
abbrev Yw:Stmt:=Qq 29 4
theorem Ni:As qI! aO_ (Ah Yw):=g!
abbrev Yx:Stmt:=Qq 30 0
theorem oJ:As aO_ aO_ (Ah Yx):=g!
abbrev Vi:Stmt:=Qq 30 1
theorem kQ:As K! K! (Ah Vi):=g!
abbrev Pc:Stmt:=Qq 30 2
theorem Yi:As K! K! (Ah Pc):=g!
abbrev Nu:Stmt:=Qq 30 3
theorem Nw:As fZ! fZ! (Ah Nu):=g!
abbrev Vh:Stmt:=Qq 30 4
theorem Vl:As qJ! cS_ (Ah Vh):=g!
abbrev Pd:Stmt:=Qq 30 5
theorem Yj:As fZ_ fZ_ (Ah Pd):=g!
abbrev Ui:Stmt:=Qq 30 6
theorem iE:As cS_ cS_ (Ah Ui):=g!
abbrev Rx:Stmt:=Qq 30 7
theorem Gy:As qK! lz_ (Ah Rx):=g!
abbrev Vj:Stmt:=Qq 30 8
theorem Px:As qK_ lA! (Ah Vj):=g!
abbrev Mp:Stmt:=Qq 30 9
theorem Ut:As f0! f0! (Ah Mp):=g!
abbrev Nt:Stmt:=Qq 30 10
theorem Vm:As K! K! (Ah Nt):=g!
abbrev Ls:Stmt:=Qq 30 11
theorem Te:As K! K! (Ah Ls):=g!
abbrev Kg:Stmt:=Qq 30 12
theorem Yh:As aP! aP! (Ah Kg):=g!
abbrev Kx:Stmt:=Qq 30 13
theorem Zr:As aP! aP! (Ah Kx):=g!
abbrev Mr:Stmt:=Qq 30 14
theorem Uu:As aP! aP! (Ah Mr):=g!
abbrev Ps:Stmt:=top 32
theorem Zq:As bF_ bF_ (Ah Ps):=g!
abbrev Yu:Stmt:=top 33
theorem Rf:As qN! aX_ (Ah Yu):=g!
abbrev pV:Stmt:=top 34
theorem Rz:As qN_ aX_ (Ah pV):=g!
abbrev a5o:Stmt:=top 35
theorem b9r:As f0_ f0_ (Ah a5o):=g!
abbrev pW:Stmt:=top 36
theorem Sa:As qO! aX_ (Ah pW):=g!
abbrev kI:Stmt:=Qq 39 0
theorem a2k:As f1_ f1_ (Ah kI):=g!
abbrev bB:Stmt:=Qq 39 1
theorem sW:As f2! f2! (Ah bB):=g!
abbrev aZ:Stmt:=top 40
theorem Td:As ub_ bt! (Ah aZ):=g!
abbrev Yt:Stmt:=top 41
theorem oH:As bt! bt! (Ah Yt):=g!
abbrev aW:Stmt:=top 42
theorem sP:As ar_ ar_ (Ah aW):=g!
abbrev jW:Stmt:=top 43
theorem a2g:As ar_ ar_ (Ah jW):=g!
abbrev aX:Stmt:=top 44
theorem sQ:As f2_ f2_ (Ah aX):=g!
abbrev Rw:Stmt:=top 45
theorem Gx:As qP_ bG! (Ah Rw):=g!
abbrev Vg:Stmt:=top 46
theorem Lu:As qR! lD! (Ah Vg):=g!
abbrev Mu:Stmt:=top 47
theorem dZ:As bG! bG! (Ah Mu):=g!
abbrev pZ:Stmt:=top 48
theorem a9a:As ar_ ar_ (Ah pZ):=g!
abbrev Jl:Stmt:=top 49
theorem Hn:As qR_ bt! (Ah Jl):=g!
abbrev jU:Stmt:=top 50
theorem kO:As qS! ar_ (Ah jU):=g!
abbrev a5n:Stmt:=top 51
theorem iU:As qS_ bG! (Ah a5n):=g!
abbrev Ue:Stmt:=top 53
theorem Uj:As qT! lD_ (Ah Ue):=g!
abbrev Nr:Stmt:=top 54
theorem Nv:As qT_ V! (Ah Nr):=g!
abbrev Lr:Stmt:=top 55
theorem Tc:As bZ_ bZ_ (Ah Lr):=g!
abbrev wX:Stmt:=top 56
theorem b2m:As V! V! (Ah wX):=g!
abbrev pX:Stmt:=top 57
theorem a8y:As V! V! (Ah pX):=g!
abbrev gC:Stmt:=top 58
theorem xJ:As V! V! (Ah gC):=g!
abbrev a5m:Stmt:=top 59
theorem b9q:As V! V! (Ah a5m):=g!
abbrev pY:Stmt:=top 60
theorem a8z:As bZ_ bZ_ (Ah pY):=g!
abbrev xB:Stmt:=top 62
theorem b2p:As cU! cU! (Ah xB):=g!
abbrev a5p:Stmt:=top 63
theorem sU:As ux_ cU! (Ah a5p):=g!
abbrev dR:Stmt:=top 66
theorem a9c:As aA! aA! (Ah dR):=g!
abbrev qC:Stmt:=top 67
theorem Xp:As qV! aA! (Ah qC):=g!
abbrev kC:Stmt:=top 68
theorem xK:As qW! lF! (Ah kC):=g!
abbrev wZ:Stmt:=top 69
theorem b2n:As f3_ f3_ (Ah wZ):=g!
abbrev kH:Stmt:=top 70
theorem Ko:As qY! lG_ (Ah kH):=g!
abbrev qB:Stmt:=top 71
theorem Lk:As qZ! lH_ (Ah qB):=g!
abbrev gD:Stmt:=top 72
theorem Nx:As qZ_ aA! (Ah gD):=g!
abbrev kB:Stmt:=top 73
theorem Zs:As q0_ aA! (Ah kB):=g!
abbrev kE:Stmt:=top 74
theorem Sb:As q2! cV_ (Ah kE):=g!
abbrev kD:Stmt:=top 75
theorem kS:As q3_ lI_ (Ah kD):=g!
abbrev xA:Stmt:=top 76
theorem b2o:As cV_ cV_ (Ah xA):=g!
abbrev kG:Stmt:=top 77
theorem Py:As q4! lK! (Ah kG):=g!
abbrev wY:Stmt:=top 78
theorem bF:As q5! aA! (Ah wY):=g!
abbrev Ta:Stmt:=top 79
theorem sV:As b0! b0! (Ah Ta):=g!
abbrev Pt:Stmt:=top 80
theorem kR:As b0! b0! (Ah Pt):=g!
abbrev Xn:Stmt:=top 81
theorem Xq:As q6! lK_ (Ah Xn):=g!
abbrev Zm:Stmt:=top 82
theorem Zp:As q6_ [bG_] (Ah Zm):=g!
noncomputable def lA:Ag->Option Fl:= (Cw (Fq (Ja "int" i_) (Fq (Hv (Ja "bool" i_)) (f2 Sj (f1 Lo aZ!) (f2 Ma (fC (.int 10)) (fC lL_))))))
noncomputable def Ld:List D->Option D:=Eu o_ 1 (lA)
noncomputable def lC:Ag->Option Fl:= (Cw (Fq (f1 Ld aZ!) (Ep Su Sj F_ i_ w!)))
noncomputable def Nd:List D->Option D:=Eu fX! 2 (lC)
noncomputable def Yy:Ag->Option Fl:= (Cw (Fq (f1 Ld aZ!) (f2 cL i_ v_)))
noncomputable def Ib:List D->Option D:=Eu o_ 1 (Yy)
noncomputable def eH:Ag->Option Fl:= (sSeq (Lw (Ye h9! (fT (f2 Wh dD! R!))) cW_ Fo) (Cw (Fq (f1 Nd (Ad V_ (Ad f5! Ao))) (f1 Ib (Ad dD_ Ao)))))
noncomputable def Ik:List D->Option D:=Eu o_ 1 (eH)
noncomputable def Vp:Ag->Option Fl:= (sSeq (Lw (Ye h9! (fT (f2 Wh dD! as!))) cW_ Fo) (Cw (Fq rc! (f1 Nd (Ad dE! (Ad f5! Ao))))))
noncomputable def Ij:List D->Option D:=Eu o_ 1 (Vp)
noncomputable def Xr:Ag->Option Fl:= (Cw (Js (f1 Ik aZ!) (Js (f2 Bu i_ f6_) (f2 Bu i_ ia_))))
noncomputable def Nc:List D->Option D:=Eu o_ 1 (Xr)
noncomputable def Tg:Ag->Option Fl:= (Cw (Js rd_ (f1 Ik aZ!)))
noncomputable def Kc:List D->Option D:=Eu o_ 1 (Tg)
noncomputable def Vr:Ag->Option Fl:= (Cw (Js rd_ (f1 Ij aZ!)))
noncomputable def Ln:List D->Option D:=Eu o_ 1 (Vr)
noncomputable def qJ:Ag->Option Fl:= (Cw (Fq (Ep Su Su (fC (.str " ")) i_ (fC (.str "~"))) (f2 Wh (f1 c0w aZ!) (fC (.int 37)))))
noncomputable def Na:List D->Option D:=Eu dC! 1 (qJ)
noncomputable def qI:Ag->Option Fl:= (sSeq (Lw (Ye (Gd (fT (Ja "str" i_))) (Gd (fT (Ep Su Su v_ dD! f5!)))) cW_ Fo) (Cw (f1 nW (Ad (He 1 [] (c7j i_) B! a1! ib!) Ao))))
noncomputable def Sn:List D->Option D:=Eu o_ 1 (qI)
noncomputable def lB:Ag->Option Fl:= (Cw (f1 Nd (Ad i_ (Ad cZ! Ao))))
noncomputable def Ia:List D->Option D:=Eu o_ 1 (lB)
noncomputable def Pp(t:Bo):List ci!:=[("put",.tup [dF_,.fn t.A5]),("move",.tup [dF_,dF_,.fn t.A5]),("drop",.tup [dF_]),("write",.tup [dF_,.fn t.A6,.fn t.A7]),("cut",.tup rh_),("set",.tup [dF_,.fn t.B0,.fn t.B1]),("undo",.tup [.fn t.B2]),("redo",.tup [.fn t.B2])]
noncomputable def Vc(t:Bo):Addr->Option wy_:=λa=>if a=t.A0 then some Nc else if a=t.A5 then some Kc else if a=t.A6 then some Ln else if a=t.A7 then some Sn else if a=t.A8 then some Ij else if a=t.A9 then some Ib else if a=t.B0 then some Ia else if a=t.B1 then some Ld else if a=t.B2 then some Ik else none
noncomputable def gF(t:Bo):Ag->Option Fl:= (sSeq (Lw (fT (f2 Wh dD! ic_)) cW_ Fo) (Cw (f1 nW (Ad (He 2 [] (c7i w! i_) id! a1! id_) Ao))))
noncomputable def Og(t:Bo):List D->Option D:=Eu fX_ 2 (gF t)
noncomputable def eI(t:Bo):Ag->Option Fl:= (sSeq (Lw (Ye h9! (fT (f2 Bu dD! F_))) cW_ Fo) (sSeq (Lw (Ye (Gd (fT (Ja "str" V_))) (fT (c2d f8_ true V_))) cW_ Fo) (sSeq (Lw (Gd (fT (f1 (Og t) (Ad (Ji i_ (Ca v_) Cb) (Ad (a7q f8_ V_) Ao))))) cW_ Fo) (Cw (Js (f2 Wh V_ (fC dG_)) (f2 Su (f2 Bd (f2 Aq dE! R!) lT_) f5!))))))
noncomputable def Pr(t:Bo):List D->Option D:=Eu o_ 1 (eI t)
noncomputable def Vq(t:Bo):Ag->Option Fl:= (sSeq (Lw (Ye h9! (fT (f2 Wh dD! cZ!))) cW_ Fo) (Cw (Fq rc! (Fq (f1 Ib (Ad dE! Ao)) (f1 (Pr t) (Ad lT_ Ao))))))
noncomputable def Eo(t:Bo):List D->Option D:=Eu o_ 1 (Vq t)
noncomputable def Uk:Ag->Option Fl:= (Cw (Cf (Ad dE! (Ad V_ Ao))))
noncomputable def Gh:List D->Option D:=Eu bF_ 1 (Uk)
noncomputable def lD:Ag->Option Fl:= (Cw (a4i Gh i_))
noncomputable def Gj:List D->Option D:=Eu aX_ 1 (lD)
noncomputable def xZ(t:Bo):WS:= (Ap (Hm t.B5 "following" i! ro_) (Hm t.B5 "preceding" i! ro_))
noncomputable def Oh(t:Bo):WF:=Ex aO_ 1 (xZ t)
noncomputable def Vt(t:Bo):WS:= (Bz (Yr (wl if_) (w2 bw! u! c0!)))
noncomputable def Oi(t:Bo):WF:=Ex K! 2 (Vt t)
noncomputable def Se(t:Bo):WS:= (Ap (Ba 3 (wIf (wT (Bx t.B5 "holds" 2 (Oi t) i! eD!)) F! b2!)) (Ap (Ba 4 (w2 Dz c0! aP_)) (Ap (Ei c0! aP_ u!) (Ap (Ei ig_ u! aP_) (Ap (Ei c0! u! a1_) (Ei ig_ a1_ u!))))))
noncomputable def Fs(t:Bo):WF:=Ex qH! 3 (Se t)
noncomputable def Vs(t:Bo):WS:= (Ap (Ba 2 (b8z ig_ u!)) (Ap (Ba 3 (b8z c0! u!)) (Ap (Ei c0! F! aP_) (Ei ig_ aP_ F!))))
noncomputable def Qn(t:Bo):WF:=Ex qH_ 2 (Vs t)
noncomputable def bJ(t:Bo):WS:= (Ap ga_ (Ap (Ba 2 (w2 Dz c0! b2!)) (Ap (Kf rr_ rs!) bJ!)))
noncomputable def Pm(t:Bo):WF:=Ex qI! 1 (bJ t)
noncomputable def tJ(t:Bo):WS:= (Ap (Hm t.B4 "parents" i! (aT (Iy (wl f6_) b2! (Iy ii! b2! aR)))) (Ap (Hm t.B4 "rows" i! (aT (Iy (wl f6_) ii_ (Iy ii! ii_ aR)))) (Ap (Hm t.B4 "texts" i! Jk) (Ap (Hm t.B4 "numbers" i! Jk) (Ap (Hm t.B4 "written" i! Jk) (Hm t.B4 "hidden" i! Jk))))))
noncomputable def Pn(t:Bo):WF:=Ex aO_ 1 (tJ t)
noncomputable def Yz(t:Bo):WS:= (Bz (w2 bw! u! ct_))
noncomputable def Dy(t:Bo):WF:=Ex K! 2 (Yz t)
noncomputable def Qb(t:Bo):WS:= (Bz (w2 bw! u! eF!))
noncomputable def Dx(t:Bo):WF:=Ex K! 2 (Qb t)
noncomputable def Pf(t:Bo):WS:= (Ap (Kf gb_ gc!) (Bz (wl if_)))
noncomputable def Kn(t:Bo):WF:=Ex fZ! 3 (Pf t)
noncomputable def oN(t:Bo):WS:= (Ap rw! (Ap rx! (Ap rx_ (Ap wC! (Ap wC_ ry_)))))
noncomputable def Ro(t:Bo):WF:=Ex qJ! 4 (oN t)
noncomputable def Qc(t:Bo):WS:= (Bz (Yr l3_ (Yr rv_ (b1t (Bx t.B4 "is_within" 3 (Kn t) i! ik_)))))
noncomputable def Lf(t:Bo):WF:=Ex fZ_ 3 (Qc t)
noncomputable def lE(t:Bo):WS:= (Ap (Bj (Sw (wT (Bx t.B4 "can_move" 3 (Lf t) i! (Ac u! eD!)))) jO Di) (Ap (En (Bx t.B5 "take_out" 2 (Qn t) (w2 Dz ct_ ij!) aJ!)) (Ap (En (Bx t.B5 "put_behind" 3 (Fs t) (w2 Dz ct_ F!) l1!)) (Ei lZ_ u! F!))))
noncomputable def Mi(t:Bo):WF:=Ex cS_ 4 (lE t)
noncomputable def Ul(t:Bo):WS:= (Ap (Bj (Sw (wT (Bx t.B4 "has_item" 2 (Dx t) i! eD!))) jO Di) (Ap (Ba 5 aP_) (Fn (Qt (vL L_)) (a8e 6 7) (Ap l5_ (Ap rD! (Ap rE! (Ba 5 gf!)))))))
noncomputable def Pa(t:Bo):WF:=Ex qK! 5 (Ul t)
noncomputable def Za(t:Bo):WS:= (Ap (Bj (Sw (wT l3_)) jO Di) (Fn (Qt (vK dI_ rF!)) (Dr 4) (Ap rG! rH_)))
noncomputable def Rp(t:Bo):WF:=Ex qK_ 4 (Za t)
noncomputable def Nz(t:Bo):WS:= (Bj (wT l3_) (Ei rI! F! aP_) Di)
noncomputable def Jw(t:Bo):WF:=Ex f0! 4 (Nz t)
noncomputable def Pe(t:Bo):WS:= (Bz ij!)
noncomputable def Ih(t:Bo):WF:=Ex K! 2 (Pe t)
noncomputable def Ms(t:Bo):WS:= (Bz (Bx t.B5 "listed" 1 (Pm t) (w2 Dz ct_ u!) Ak))
noncomputable def Hg(t:Bo):WF:=Ex K! 2 (Ms t)
noncomputable def Zu(t:Bo):WS:= (Bz (Ea 1 [0] (Em (Bx t.B5 "listed" 1 (Pm t) rG_ Ak)) B! (wT (w2 in_ i! (Bs t.B4 "hidden" u!))) i!))
noncomputable def Hd(t:Bo):WF:=Ex aP! 2 (Zu t)
noncomputable def bK(t:Bo):WS:= (Bz (jP "" (Ea 1 [0] rJ_ B! gh_ (w2 Dz (Bs t.B4 "written" u!) i!))))
noncomputable def Jo(t:Bo):WF:=Ex aP! 2 (bK t)
noncomputable def Oa(t:Bo):WS:= (Bz (w1 a7i (Ac rI! Ak)))
noncomputable def Ht(t:Bo):WF:=Ex aP! 2 (Oa t)
noncomputable def bI:Ag->Option Fl:= (Cw (Js (f2 Bu io! io_) (f2 Bu io! (fC l9!))))
noncomputable def Ch:List D->Option D:=Eu bF_ 1 (bI)
noncomputable def tI:WS:= (Ap kl! (Ap (Fn (Qt (Hk ip!)) a3_ rL_) bJ!))
noncomputable def Kb:WF:=Ex qN! 1 (tI)
noncomputable def b3d:WS:= (Ap rM! (Ap eG_ (Ap (Fn iq! z! it!) dL!)))
noncomputable def Sl:WF:=Ex qN_ 1 (b3d)
noncomputable def a2u(t:Bo):WS:= (Bj rP_ (En (Bx t.B4 "put" 4 (Ro t) i! (Ac u! (Ac b5! (Ac gm! Ak))))) (Bj rS! (En (Bx t.B4 "move" 4 (Mi t) i! gm_)) (Bj rS_ (En (Bx t.B4 "move" 4 (Mi t) i! rT!)) (Bj rU! (En (Bx t.B4 "write" 5 (Pa t) i! (Ac u! gm_))) (Bj rU_ (En (Bx t.B4 "cut" 4 (Rp t) i! gm_)) (Bj rV_ (En (Bx t.B4 "set_number" 4 (Jw t) i! gm_)) Di))))))
noncomputable def aH(t:Bo):WF:=Ex f0_ 3 (a2u t)
noncomputable def b3e(t:Bo):WS:= (Ap rX_ (Ap (Ba 2 (Ay 1 Sl aQ!)) (Ap (Fn (Qt (Hk ip!)) z! (Ap eH_ r0_)) bJ!)))
noncomputable def Ql(t:Bo):WF:=Ex qO! 1 (b3e t)
noncomputable def a9k(t:Bo):WS:= (Ap r1_ r2!)
noncomputable def Sr(t:Bo):WF:=Ex f1_ 2 (a9k t)
noncomputable def yE(t:Bo):WS:= (Bz r3!)
noncomputable def Ix(t:Bo):WF:=Ex f2! 2 (yE t)
noncomputable def xY(t:Bo):WS:= (Ap ga_ (Ap (Fn (aS dL_) a3_ (b1v 1 mh!)) mh_))
noncomputable def Jv(t:Bo):WF:=Ex ub_ 1 (xY t)
noncomputable def tH(t:Bo):WS:= (Ap r5_ (Bz go_))
noncomputable def Es(t:Bo):WF:=Ex bt! 1 (tH t)
noncomputable def xW(t:Bo):WS:= (Bz r7!)
noncomputable def Lm(t:Bo):WF:=Ex ar_ 2 (xW t)
noncomputable def a9h(t:Bo):WS:= (Bz r7_)
noncomputable def Nb(t:Bo):WF:=Ex ar_ 2 (a9h t)
noncomputable def xX(t:Bo):WS:= (Ap r8! (Bz (w2 Dz (w2 Dz (w2 Dz dL_ u!) (wl (d2i v_))) (wl R!))))
noncomputable def Of(t:Bo):WF:=Ex f2_ 2 (xX t)
noncomputable def iG(t:Bo):WS:= (Ap eG_ (Ap (Fn r8_ z! (Ap eH_ (Ap sb! sd!))) dL!))
noncomputable def Gi(t:Bo):WF:=Ex qP_ 2 (iG t)
noncomputable def oM(t:Bo):WS:= (Ap eG_ (Fn zg_ z! (Ap sd_ (Ap sg_ sh_))))
noncomputable def Nl(t:Bo):WF:=Ex qR! 2 (oM t)
noncomputable def iH(t:Bo):WS:= (Ap (Bj (Fj (Gd sj!)) Jg Di) sl!)
noncomputable def Ku(t:Bo):WF:=Ex bG! 2 (iH t)
noncomputable def b3j(t:Bo):WS:= (Ap sl_ mf!)
noncomputable def Xb(t:Bo):WF:=Ex ar_ 2 (b3j t)
noncomputable def eJ(t:Bo):WS:= (Ap (Ba 1 a2!) (Ap sn! (Ap (Kf sn_ (Ap Jg (Ap (En (Ay 2 (Xb t) (Ac i! (Ac (wl bx_) Ak)))) (Ap (wP 1 (wl v_)) sn!)))) bJ!)))
noncomputable def Il(t:Bo):WF:=Ex qR_ 1 (eJ t)
noncomputable def a9f(t:Bo):WS:= (Ap sq! (Ap (Ba 2 (a8n (Ay 2 (Lm t) cv_) (w2 bw! u! eK_))) (Ap (Bj (Mm (Fj (Gd (fT y!))) (wT (w2 (λ_=>Sj) (w1 a3z (Ac eK_ Ak)) (wl (fC (.int 8)))))) (En (wQ eK_ u!)) Di) (Bz a2!))))
noncomputable def Sm(t:Bo):WF:=Ex qS! 2 (a9f t)
noncomputable def c5v(t:Bo):WS:= (Ap sr_ (Ap (Ba 2 a2!) (Ap (Fn (Qt dN!) z! (wP 2 ss!)) dL!)))
noncomputable def nF(t:Bo):WF:=Ex qS_ 2 (c5v t)
noncomputable def kZ(t:Bo):WS:= (Ap iB_ sv!)
noncomputable def Mg(t:Bo):WF:=Ex qT! 2 (kZ t)
noncomputable def Yk(t:Bo):WS:= (Ap iB_ sw_)
noncomputable def Dp(t:Bo):WF:=Ex qT_ 2 (Yk t)
noncomputable def Uw(t:Bo):WS:= (Ap sx_ (Bz iE!))
noncomputable def Hf(t:Bo):WF:=Ex bZ_ 3 (Uw t)
noncomputable def b9z(t:Bo):WS:= (Bz my_)
noncomputable def Qz(t:Bo):WF:=Ex V! 2 (b9z t)
noncomputable def b3f(t:Bo):WS:= (Bz sz!)
noncomputable def cM(t:Bo):WF:=Ex V! 2 (b3f t)
noncomputable def a2v(t:Bo):WS:= (Bz sA!)
noncomputable def Qm(t:Bo):WF:=Ex V! 2 (a2v t)
noncomputable def c5u(t:Bo):WS:= (Bz sA_)
noncomputable def vO(t:Bo):WF:=Ex V! 2 (c5u t)
noncomputable def b3g(t:Bo):WS:= (Bz sB!)
noncomputable def Xa(t:Bo):WF:=Ex bZ_ 3 (b3g t)
noncomputable def tK:Ag->Option Fl:= (sSeq (Lw (λρ=>((i_) ρ).bind a8r) sD! Fo) (Cw F_))
noncomputable def cP:List D->Option D:=Eu cU! 2 (tK)
noncomputable def b3k:Ag->Option Fl:= (sSeq (Fe 2 (f2 Eg (f2 Bd (f1 cP (Ad i_ cZ_)) (f2 Iu (fC (.int 104729)) sE!)) (fC (.int 4294967291)))) (sSeq (Fe 2 (f2 Eg (f2 Iu y! (fC (.int 48271))) (fC (.int 4294967279)))) (Cw (f2 Eg (f2 Bd (f2 Iu (f2 Fa y! (fC (.int 64))) (fC (.int 69621))) y!) (fC (.int 4294967231))))))
noncomputable def Ee:List D->Option D:=Eu ux_ 2 (b3k)
noncomputable def yC:Ag->Option Fl:= (Cw (f2 Bd (f2 Bd (fC (.lst [f6!])) (He 1 [] iq_ B! (fT mB!) (Cf gt!))) (fC (.lst [ia!,sG_]))))
noncomputable def Xe:List D->Option D:=Eu aA! 1 (yC)
noncomputable def yA:Ag->Option Fl:= (sSeq (Vn 1 (Ad cg_ (Ad (fC (.tup [iF!,iF!,aA_])) Ao))) (sSeq (oK iq_ a3_ (Lw sH! sI! Fo)) (Cw w!)))
noncomputable def Xc:List D->Option D:=Eu qV! 1 (yA)
noncomputable def a6d:Ag->Option Fl:= (sSeq (Fe 2 (fC (.str " abcXYZ.,;!019~[]\\\"'|{}<>@#$&*()-+/=_^:?`"))) (Cw (b6w (fC iH!) (He 1 [0,2] (Km mC_) B! a1! sJ!))))
noncomputable def cN:List D->Option D:=Eu qW! 2 (a6d)
noncomputable def a6f:Ag->Option Fl:= sD!
noncomputable def Hu:List D->Option D:=Eu f3_ 2 (a6f)
noncomputable def iW:Ag->Option Fl:= (sSeq sK_ (sSeq sL! (sSeq sL_ (sSeq sM_ (sSeq sN! (sSeq sO! (sSeq sP_ (sSeq sR! (sSeq sS_ (sSeq sT! (sSeq sT_ (sSeq sU_ (sSeq sX_ (sSeq sY_ (sSeq sZ_ s0!)))))))))))))))
noncomputable def Tx:List D->Option D:=Eu qY! 4 (iW)
noncomputable def lF:Ag->Option Fl:= (sSeq (Vn 3 Ao) (sSeq (Vn 4 iN!) (sSeq (Vn 5 iN!) (sSeq (oK (Km y!) eQ_ (sSeq s2_ (sSeq s3! (sSeq s3_ (sSeq s4! (sSeq s4_ s6!)))))) (Cw G_)))))
noncomputable def So:List D->Option D:=Eu qZ! 3 (lF)
noncomputable def a2w:WS:= (Ap ga_ (Ap (Fn iq! a3_ (Ap s6_ (Ap (Kf (Fj (Fx s7! ta_)) mJ_) tc!))) bJ!))
noncomputable def Ic:WF:=Ex qZ_ 1 (a2w)
noncomputable def a9j:WS:= (Ap kl! (Ap (Fn eS! a3_ (Bj te_ tg! Di)) bJ!))
noncomputable def Sq:WF:=Ex q0_ 1 (a9j)
noncomputable def c0e:WS:= (Ap (Ba 4 (Ea 1 [1] mL! B! (Fj (fT th!)) i!)) (Ap (Ba 5 a2!) (Ap (Kf (Fj (Fx ti_ tj_)) tk_) (Ap (Fn (Qt (Km eS_)) eQ_ (Bj to! to_ Di)) (Ei i! gy_ (wl (f2 Bd tq! tq_)))))))
noncomputable def Mj:WF:=Ex q2! 4 (c0e)
noncomputable def c0d:WS:= (Ap (Kf iR! (Ap tt! (Ap tt_ (Ba 1 eM!)))) (Bz gg_))
noncomputable def Yd:WF:=Ex q3_ 3 (c0d)
noncomputable def c0c:WS:= (Bj (Mm (wT (w2 bw! u! bh_)) (wOr (wT (w2 bw! F! bh_)) (wT (w2 bw! F! tv!)))) (Bj tv_ tx! Di) Di)
noncomputable def Ra:WF:=Ex cV_ 4 (c0c)
noncomputable def b3l:WS:= (Ap mO! (Ap mP! (Bj rP_ (Ap tz! (Ap mP_ (Ap mR_ mT!))) (Bj rS! mU! (Bj rS_ mU_ (Bj (Mm rV_ (wT gA_)) tC! (Bj (Mm rU! (wT gA_)) (Ap iU! (Ap (Ba 6 a2!) (Ap (Fn mV_ (Dr 7) tE!) (Ap tG_ tI_)))) (Bj (Mm rU_ (wT gA_)) (Ap tL! (Ap iU! tL_)) Di))))))))
noncomputable def a7p:WF:=Ex q4! 2 (b3l)
noncomputable def a6e:WS:= (Ap tN! (Ap tN_ (Ap (Fn eS! z! (Bj (Mm tO! tP_) tQ_ Di)) bJ!)))
noncomputable def cO:WF:=Ex q5! 1 (a6e)
noncomputable def yD:WS:= (Bz (Ea 1 [1] mL! B! (Fj (fT tR!)) (wl V_)))
noncomputable def Oj:WF:=Ex b0! 2 (yD)
noncomputable def oO:WS:= (Bz (jP "" (Ea 1 [] tT! B! (Fj (fT dE!)) (wl dD_))))
noncomputable def Nm:WF:=Ex b0! 2 (oO)
noncomputable def yB(t:Bo):WS:= (Ap mZ_ (Ap (Fn tU! z! (Bj tV! dT_ Di)) (Ap (Fn (aS m0!) z! (Ap tV_ (Ap tY_ t0!))) t1_)))
noncomputable def Xd(t:Bo):WF:=Ex q6! 2 (yB t)
noncomputable def b3i(t:Bo):WS:= (Ap t2_ (Ap m3_ (Ap m4! (Ap (Bj (Fj (fT m4_)) (Ap t5! t6_) Di) (Ap t7! (Ap m6! (Bz m6_)))))))
noncomputable def c4k(t:Bo):WF:=Ex q6_ 1 (b3i t)
structure Txt(P:Program)(w:World)(K:W.Frag)(mg:A!)(t:Bo):Prop where
 C8:Lj K mg "is_whole" fY o_
 C9:Lj K mg "is_below" gA fX!
 D1:Lj K mg "is_from_one" Vf o_
 D2:Lj K mg "is_name" jX o_
 D3:Lj K mg "is_sign_name" Uf o_
 D4:Lj K mg "is_item" jY o_
 D5:Lj K mg "is_sibling" Yv o_
 D6:Lj K mg "is_behind" aY o_
 D7:Lj K mg "is_sign" jV dC!
 D8:Lj K mg "is_text" Zn o_
 D9:Lj K mg "is_place" fZ o_
 E1:Lj K mg "are_parts" Sz fX_
 E2:Lj K mg "is_deed" jZ o_
 E3:Lj K mg "is_operation" Ug o_
 E4:Lj K mg "time_and_hand" Rv bF_
 E5:Lj K mg "in_order" gB aX_
 E6:a1l K mg "Row" t.B5 "Row.__init__" qA aO_
 E7:Fz K t.B5 "holds" "Row.holds" bA K!
 E8:Fz K t.B5 "put_behind" "Row.put_behind" Qv lx_
 E9:Fz K t.B5 "take_out" "Row.take_out" Uh K!
 F7:Fz K t.B5 "listed" "Row.listed" Yw aO_
 F8:a1l K mg "Outline" t.B4 "Outline.__init__" Yx aO_
 F9:Fz K t.B4 "has" "Outline.has" Vi K!
 G6:Fz K t.B4 "has_item" "Outline.has_item" Pc K!
 G7:Fz K t.B4 "is_within" "Outline.is_within" Nu fZ!
 G8:Fz K t.B4 "put" "Outline.put" Vh cS_
 G9:Fz K t.B4 "can_move" "Outline.can_move" Pd fZ_
 H9:Fz K t.B4 "move" "Outline.move" Ui cS_
 J0:Fz K t.B4 "write" "Outline.write" Rx lz_
 J1:Fz K t.B4 "cut" "Outline.cut" Vj lA!
 J2:Fz K t.B4 "set_number" "Outline.set_number" Mp f0!
 J3:Fz K t.B4 "parent_of" "Outline.parent_of" Nt K!
 J4:Fz K t.B4 "children_of" "Outline.children_of" Ls K!
 J5:Fz K t.B4 "signs_of" "Outline.signs_of" Kg aP!
 J6:Fz K t.B4 "text_of" "Outline.text_of" Kx aP!
 J7:Fz K t.B4 "numbers_of" "Outline.numbers_of" Mr aP!
 J8:Lj K mg "is_undo_or_redo" Ps bF_
 J9:Lj K mg "last_words" Yu aX_
 K0:Lj K mg "undone" pV aX_
 K4:Lj K mg "play" a5o f0_
 K6:Lj K mg "played" pW aX_
 K7:a1l K mg "Hand" t.B3 "Hand.__init__" kI f1_
 K8:Fz K t.B3 "have" "Hand.have" bB f2!
 K9:Lj K mg "all_taken" aZ bt!
 L0:Lj K mg "outline_of" Yt bt!
 L5:Lj K mg "was_taken" aW ar_
 L6:Lj K mg "is_next" jW ar_
 L7:Lj K mg "last_time" aX f2_
 L8:Lj K mg "not_yet_taken" Rw bG!
 L9:Lj K mg "check_times" Vg lD!
 M6:Lj K mg "check_message" Mu bG!
 M7:Lj K mg "accept" pZ ar_
 M9:Lj K mg "accept_waiting" Jl bt!
 N0:Lj K mg "receive" jU ar_
 N3:Lj K mg "take" a5n bG!
 N4:Lj K mg "outline_with" Ue lD_
 N5:Lj K mg "outline_with_item" Nr V!
 N6:Lj K mg "outline_with_number" Lr bZ_
 N7:Lj K mg "there" wX V!
 N8:Lj K mg "parent" pX V!
 N9:Lj K mg "children" gC V!
 O0:Lj K mg "text" a5m V!
 O1:Lj K mg "number" pY bZ_
 O2:Lj K mg "_law_cell" xB cU!
 O3:Lj K mg "_law_mix" a5p cU!
 O4:Lj K mg "_law_items" dR aA!
 O5:Lj K mg "_law_signs" qC aA!
 O6:Lj K mg "_law_text" kC lF!
 O7:Lj K mg "_law_pick" wZ f3_
 O8:Lj K mg "_law_deed" kH lG_
 O9:Lj K mg "_law_world" qB lH_
 P0:Lj K mg "_law_ordered" gD aA!
 P1:Lj K mg "_law_undone" kB aA!
 P3:Lj K mg "_law_hang" kE cV_
 P4:Lj K mg "_law_lies" kD lI_
 P5:Lj K mg "_law_move" xA cV_
 P6:Lj K mg "_law_do" kG lK!
 P7:Lj K mg "_law_play" wY aA!
 P8:Lj K mg "_law_children" Ta b0!
 P9:Lj K mg "_law_shown_text" Pt b0!
 Q0:Lj K mg "_law_shows" Xn lK_
 Q3:Lj K mg "law" Zm [bG_]
 Q4:mg "abs"=none
 Q5:mg "all"=none
 Q6:mg "bool"=none
 Q7:mg "enumerate"=none
 Q8:mg "int"=none
 Q9:mg "isinstance"=none
 R0:mg "len"=none
 R4:mg "list"=none
 R6:mg "ord"=none
 R7:mg "range"=none
 R8:mg "sorted"=none
 R9:mg "str"=none
 S0:mg "tuple"=none
 S7:mg "zip"=none
 S8:∃tk,mg "HANDS"=some (.int 16 tk)
 S9:∃tk,mg "SIGNS"=some (.int 16 tk)
 T0:∃tk,mg "PLACES"=some (.int 4 tk)
 T1:∃tk,mg "LEFT_OUT"=some (.int 37 tk)
 T2:∃tk,mg "MOST_WAITING"=some (.int 8 tk)
 T3:mg "is_item"=some (.ref t.A0)
 T4:mg "is_sibling"=some (.ref t.A5)
 T5:mg "is_behind"=some (.ref t.A6)
 T6:mg "is_text"=some (.ref t.A7)
 T7:mg "is_sign_name"=some (.ref t.A8)
 T8:mg "is_from_one"=some (.ref t.A9)
 T9:mg "is_place"=some (.ref t.B0)
 U0:mg "is_whole"=some (.ref t.B1)
 U1:mg "is_name"=some (.ref t.B2)
 U2:Cls K t.B3
 U3:Cls K t.B4
 U4:Cls K t.B5
 U5:Ir K t.B5 "following"
 U6:Ir K t.B5 "preceding"
 U7:Ir K t.B4 "parents"
 U8:Ir K t.B4 "rows"
 U9:Ir K t.B4 "texts"
 V0:Ir K t.B4 "numbers"
 V1:Ir K t.B4 "written"
 V2:Ir K t.B4 "hidden"
 V3:Ir K t.B3 "ours"
 V4:Ir K t.B3 "taken"
 V5:Ir K t.B3 "waiting"
 V6:Ir K t.B3 "outline"
 V7:∀X:Cx,X.prog=P->X.w=w->X.K=K->X.mg=mg->a1k X "PARTS" f8_
theorem Gu:∀(l:h_) (d v:D),kget eW_ d=some v
 |[],d,v=>by simp[Bk,kget]
 |(k,x)::r,d,v=>by
  unfold Bk;by_cases h:k=d
  .rw[AN h];simp[kget,h]
  .rw[AH h];simp[kget,h,Gu r d v]
theorem Hb(h:d≠e):∀(l:h_) (v:D),kget eW_ e=kget l e
 |[],v=>by simp[Bk,kget,h]
 |(k,x)::r,v=>by
  unfold Bk;show"!f"
  .rw[a4_];subst hk;simp[kget,h]
  .rw[aE!];simp only[kget];rw[Hb h r v]
theorem mP(h:d≠e):∀(l:h_),kget gE_ e=kget l e
 |[]=>rfl
 |(k,x)::r=>by
  unfold Mn;show"!f"
  .rw[a4_];subst hk;simp[kget,h]
  .rw[aE!];simp only[kget];rw[mP h r]
theorem vB:∀{l:h_} {d:D},kget l d≠none↔d∈l.map a_
 |[],d=>by simp[kget]
 |(k,x)::r,d=>by
  unfold kget;show"!f"
  .subst hk;simp
  .rw[aE!,vB];simp[AI hk]
theorem mO:∀{l:h_} {d:D},(em_).Nodup->kget gE_ d=none
 |[],d,_=>rfl
 |(k,x)::r,d,h=>by
  rw[AK,AV]at h;unfold Mn;show"!f"
  .rw[a4_];subst hk;cases e:kget r k with
   |none=>rfl
   |some v=>exact absurd (vB.mp o7_) h.1
  .rw[aE!];unfold kget;rw[aE!];exact mO h.2
theorem uI:∀{l:h_} {d v:D} {e:D},e∈(eW_).map a_↔e=d\/e∈l.map a_
 |[],d,v,e=>by simp[Bk]
 |(k,x)::r,d,v,e=>by
  unfold Bk;show"!f"
  .rw[a4_];subst hk;simp
  .rw[aE!];simp only[AK,AD];rw[uI];constructor<;>(rintro(h|h|h)<;>simp[h])
theorem Ts:∀{l:h_} {d v:D},(em_).Nodup->((eW_).map a_).Nodup
 |[],d,v,_=>by simp[Bk]
 |(k,x)::r,d,v,h=>by
  rw[AK,AV]at h;unfold Bk;show"!f"
  .rw[a4_];simp only[AK,AV];exact h
  .rw[aE!];simp only[AK,AV];refine⟨cH_,Ts h.2⟩;rcases uI.mp z with z|z
   .exact hk z
   .exact h.1 z
theorem b6c:∀{l:h_} {d e:D},e∈(gE_).map a_->e∈l.map a_
 |[],d,e,h=>by simp[Mn]at h
 |(k,x)::r,d,e,h=>by
  unfold Mn at h;show"!f"
  .rw[a4_]at h;simp only[AK,AD];exact .inr h
  .rw[aE!]at h;simp only[AK,AD]at h ⊢;rcases h with h|h
   .exact .inl h
   .exact .inr (b6c h)
theorem b6d:∀{l:h_} {d:D},(em_).Nodup->((gE_).map a_).Nodup
 |[],d,_=>by simp[Mn]
 |(k,x)::r,d,h=>by
  rw[AK,AV]at h;unfold Mn;show"!f"
  .rw[a4_];exact h.2
  .rw[aE!];simp only[AK,AV];exact⟨λz=>h.1 (b6c z),b6d h.2⟩
theorem mH:∀{l:h_} {d v:D},kget l d≠none->(eW_).length=ai_
 |[],d,v,h=>by simp[kget]at h
 |(k,x)::r,d,v,h=>by
  unfold Bk;show"!f"
  .rw[a4_];rfl
  .rw[aE!];unfold kget at h;rw[aE!]at h;simp[mH h]
theorem mV:∀{l:h_} {d:D},kget l d≠none->(gE_).length+1=ai_
 |[],d,h=>by simp[kget]at h
 |(k,x)::r,d,h=>by
  unfold Mn;show"!f"
  .rw[a4_];rfl
  .rw[aE!];unfold kget at h;rw[aE!]at h;simp[mV h]
noncomputable def Sf{α:Type}:List α->List (α×α)
 |a::b::r=>Y!::Sf (b::r)
 |_=>[]
theorem Jy{α:Type}:∀(u:N_) (a b:α) (v:N_),Sf (u++a::b::v)=Sf (u++[a])++Y!::Sf (b::v)
 |[],a,b,v=>rfl
 |[x],a,b,v=>rfl
 |x::y::u,a,b,v=>by
  have:=Jy (y::u) a b v;simp only[FA]at this ⊢;simp only[Sf,FA];rw[this]
theorem a6m{α:Type}:∀(a:α) (l:N_),(Sf (a::l)).map a_=(a::l).dropLast
 |a,[]=>rfl
 |a,b::r=>by simp only[Sf,AK,a6m b r,List.dropLast]
theorem a6l{α:Type}:∀(a:α) (l:N_),(Sf (a::l)).map B_=l
 |a,[]=>rfl
 |a,b::r=>by simp only[Sf,AK,a6l b r]
noncomputable def Rt(xs:b!):List D:=.non::(xs++[.non])
theorem vY(xs:b!):(eX!).map a_=.non::xs:=by unfold Rt;rw[a6m,show(D.non::(xs++[.non]))=(.non::xs)++[.non]from rfl,List.dropLast_concat]
theorem cZ(xs:b!):(eX!).map B_=xs++[.non]:=a6l _ _
structure iP(kf kp:h_)(xs:b!):Prop where
 f:∀a b,kget kf a=some b↔Y!∈Sf aK!
 p:∀a b,kget kp b=some a↔Y!∈Sf aK!
 nd:xs.Nodup
 no:D.non∉xs
 kf_nd:(kf.map a_).Nodup
 kp_nd:(kp.map a_).Nodup
 fl:kf.length=k_+1
 pl:kp.length=k_+1
theorem Ss{α β:Type}:∀{l:List (α×β)} {a:α} {b c:β},(em_).Nodup->Y!∈l->(a,c)∈l->b=c
 |[],_,_,_,_,h,_=>by cases h
 |(x,y)::r,a,b,c,nd,B,Y=>by
  rw[AK,AV]at nd;rcases AD.mp B with z|z<;>rcases AD.mp Y with w|w
  .cases z;cases w;rfl
  .cases z;exact absurd uf! nd.1
  .cases w;exact absurd uf_ nd.1
  .exact Ss nd.2 z w
theorem iP.hasF(h:i1_)(a:D):kget kf a≠none↔a=.non\/a∈xs:=by
 have e:=vY xs;show"!J"
 .intro z;cases q:kget kf a with
  |none=>exact absurd q z
  |some b=>
   have:=AO (f:=a_) ((h.f a b).mp q);rw[e]at this;simpa using this
 .intro z;have:a∈(eX!).map a_:=by rw[e];simpa using z
  obtain⟨⟨x,b⟩,hm,rfl⟩:=AX.mp this;rw[(h.f x b).mpr hm];simp
theorem iP.hasP(h:i1_)(b:D):kget kp b≠none↔b=.non\/b∈xs:=by
 have e:=cZ xs;show"!J"
 .intro z;cases q:kget kp b with
  |none=>exact absurd q z
  |some a=>
   have:=AO (f:=B_) ((h.p a b).mp q);rw[e]at this;rcases AQ.mp this with w|w
   .exact .inr w
   .exact .inl (by simpa using w)
 .intro z;have:b∈(eX!).map B_:=by rw[e];rcases z with rfl|z<;>simp[*]
  obtain⟨⟨a,y⟩,hm,rfl⟩:=AX.mp this;rw[(h.p a y).mpr hm];simp
theorem b2v:iP i2_ i2_ []:=by
 refine⟨eX_,eX_,I!,I!,I!,I!,rfl,rfl⟩<;>
 .simp only[Rt,Sf,kget,CT,AD,BQ,DK,DM];show"!J"
  .intro z;split at z
   .rename_i q;cases z;exact⟨by first|exact q.symm|rfl,by first|rfl|exact q.symm⟩
   .cases z
  .rintro⟨rfl,rfl⟩;simp
noncomputable def b6p(n a:D):List D->List D
 |[]=>[]
 |x::r=>open Classical in if x=a then x::n::r else x::b6p n a r
noncomputable def iI(n a:D)(xs:b!):List D:=open Classical in if a∈xs then b6p n a xs else n::xs
theorem Tw:∀{u v:b!},a∉u->b6p n a (u++a::v)=u++a::n::v
 |[],v,_=>by simp[b6p]
 |x::u,v,h=>by
  rw[AD,GN]at h;simp only[FA,b6p];rw[kK!,Tw h.2]
theorem iP.ins(h:i1_)(e:Rt xs=u++a0::b0::v)(e':Rt gb=u++a0::n::b0::v)(hn:n∉xs)(h0:n≠.non):
  iP (Bk eY! n b0) (Bk eY_ b0 n) gb:=by
 have P:=Jy u a0 b0 v;have P':Sf (Rt gb)=Sf i4!++(a0,n)::(n,b0)::Sf i4_:=by rw[e',Jy];rfl
 rw[<-e]at P;have F:=vY xs;have S:=cZ xs;have yo:(D.non::xs).Nodup:=AV.mpr ui!;have vp:(xs++bN!).Nodup:=by
  rw[BO];exact ui_
 have nf:∀a b,Y!∈Sf aK!->a≠n:=λa b hm z=>by
  have:=AO (f:=a_) hm;rw[F]at this;rcases AD.mp this with w|w
  .exact h0 i6_
  .exact hn i6_
 have ns:∀a b,Y!∈Sf aK!->b≠n:=λa b hm z=>by
  have:=AO (f:=B_) hm;rw[S]at this;rcases AQ.mp this with w|w
  .exact hn i6_
  .simp at w;exact h0 i6_
 have m0:(a0,b0)∈Sf aK!:=by rw[P];simp
 have vq:a0≠n:=nf _ _ m0;have px:b0≠n:=ns _ _ m0;have dF:∀a b,Y!∈Sf i4!\/Y!∈Sf i4_->Y!∈Sf aK!/\a≠a0/\b≠b0:=λa b hm=>by
  have q:Y!∈Sf aK!:=by rw[P];rcases hm with z|z<;>simp[z]
  have gd:=F▸yo;have be:=S▸vp;rw[P]at gd be;simp only[BK,AK]at gd be;rw[BO,AV]at gd be;refine⟨q,cH_,cH_⟩
  .rcases hm with w|w
   .exact gd.2.2 _ uf! _ d_ z
   .exact gd.2.1.1 (z▸AO (f:=a_) w)
  .rcases hm with w|w
   .exact be.2.2 _ (AO (f:=B_) w) _ d_ z
   .have:=AO (f:=B_) w;rw[show(Y!).2=b0 from z]at this;exact be.2.1.1 this
 have len:gb.length=k_+1:=by
  show"!O"
 have WY:∀y,y∈Rt gb↔y=n\/y∈Rt xs:=λy=>by rw[e,e'];simp only[AQ,AD];constructor<;>(intro z;rcases z with z|z|z|z|z<;>simp[z])
 have tl:gb++bN!=m8!:=rfl;have fq:(m8!).Nodup:=by
  rw[<-cZ gb,P'];have be:=S▸vp;rw[P]at be;simp only[BK,AK]at be ⊢;rw[BO,AV]at be;rw[BO,AV,AV];refine⟨be.1,⟨cH_,be.2.1.1,be.2.1.2⟩,uk!⟩
  .rcases AD.mp z with z|z
   .exact px z.symm
   .obtain⟨⟨c,d⟩,hm,rfl⟩:=AX.mp z;exact ns c d ul! rfl
  .rcases AD.mp J with rfl|J
   .obtain⟨⟨c,d⟩,hm,rfl⟩:=AX.mp ha;exact ns c d ul!
   .exact ul_
 rw[BO]at fq;refine⟨eX_,eX_,fq.1,um!,Ts (Ts h.kf_nd),Ts (Ts h.kp_nd),?_,?_⟩
 .rw[P'];show"!Q";by_cases q1:n=a
  .show"#&"
   .show"!e";simp
   .rintro(z|⟨z,_⟩|⟨_,z⟩|z)
    .exact absurd rfl (nf _ _ (c6_).1)
    .exact absurd z.symm vq
    .rw[z]
    .exact absurd rfl (nf _ _ (c7!).1)
  .rw[Hb q1];by_cases q2:a0=a
   .subst q2;rw[Gu];show"!J"
    .show"!e";simp
    .rintro(z|⟨_,z⟩|⟨z,_⟩|z)
     .exact absurd rfl (c6_).2.1
     .rw[z]
     .exact b9_
     .exact absurd rfl (c7!).2.1
   .rw[Hb q2,h.f,P];show"!Q";show"!J"
    .show"#B"
     .exact cx!
     .exact gG!
     .exact i8!
    .rintro(z|⟨z,_⟩|⟨z,_⟩|z)
     .exact cx!
     .exact gG!
     .exact b9_
     .exact i8_
 .rw[P'];show"!Q";by_cases q1:b0=b
  .show"#&"
   .show"!e";simp
   .rintro(z|⟨_,z⟩|⟨z,_⟩|z)
    .exact absurd rfl (c6_).2.2
    .exact absurd z px
    .rw[z]
    .exact absurd rfl (c7!).2.2
  .rw[Hb q1];by_cases q2:n=b
   .subst q2;rw[Gu];show"!J"
    .show"!e";simp
    .rintro(z|⟨z,_⟩|⟨_,z⟩|z)
     .exact absurd rfl (ns _ _ (c6_).1)
     .rw[z]
     .exact absurd z.symm px
     .exact absurd rfl (ns _ _ (c7!).1)
   .rw[Hb q2,h.p,P];show"!Q";show"!J"
    .show"#C"
     .exact cx!
     .exact b9_
     .exact i8!
    .rintro(z|⟨_,z⟩|⟨_,z⟩|z)
     .exact cx!
     .exact gG!
     .exact b9_
     .exact i8_
 .have f0:kget kf a0≠none:=by rw[(m9!).mpr m0];simp
  have f1:n∉(eY!).map a_:=λz=>by
   rcases uI.mp z with z|z
   .exact vq z.symm
   .rcases(h.hasF n).mp (vB.mpr z)with w|w
    .exact h0 w
    .exact hn w
  rw[Qg f1,AY,mH f0,h.fl,len];rfl
 .have f1:n∉kp.map a_:=λz=>by
   rcases(h.hasP n).mp (vB.mpr z)with w|w
   .exact h0 w
   .exact hn w
  have f0:kget eY_ b0≠none:=by rw[Hb (AI px),(m9_).mpr m0];simp
  rw[mH f0,Qg f1,AY,h.pl,len];rfl
theorem iP.out(h:i1_)(e:Rt xs=u++a0::n::b0::v)(e':Rt gb=u++a0::b0::v)(h0:n≠.non):
  iP uq_ ur! gb:=by
 have P':=Jy u a0 b0 v;have P:Sf aK!=Sf i4!++(a0,n)::(n,b0)::Sf i4_:=by rw[e,Jy];rfl
 rw[<-e']at P';have F:=vY xs;have S:=cZ xs;have yo:((eX!).map a_).Nodup:=by rw[F];exact AV.mpr ui!
 have vp:((eX!).map B_).Nodup:=by
  rw[S,BO];exact ui_
 have gd:=yo;have be:=vp;rw[P]at gd be;simp only[BK,AK]at gd be;rw[BO,AV,AV]at gd be;have vq:a0≠n:=λz=>gd.2.1.1 f1!;have px:b0≠n:=λz=>be.2.1.1 f1!;have m1:(a0,n)∈Sf aK!:=by rw[P];simp
 have m2:(n,b0)∈Sf aK!:=by rw[P];simp
 have len:k_=gb.length+1:=by
  show"!O"
 have dF:∀a b,Y!∈Sf i4!\/Y!∈Sf i4_->Y!∈Sf aK!/\(a≠a0/\a≠n)/\(b≠b0/\b≠n):=λa b hm=>by
  have q:Y!∈Sf aK!:=by rw[P];rcases hm with z|z<;>simp[z]
  have g1:a≠a0/\a≠n:=by
   rcases hm with w|w
   .have:=AO (f:=a_) w;exact⟨us!,us!⟩
   .have:=AO (f:=a_) w;exact⟨λz=>gd.2.1.1 (AE _ ja!),λz=>gd.2.1.2.1 ja!⟩
  have g2:b≠b0/\b≠n:=by
   rcases hm with w|w
   .have:=AO (f:=B_) w;exact⟨ut!,ut!⟩
   .have:=AO (f:=B_) w;exact⟨λz=>be.2.1.2.1 ja!,λz=>be.2.1.1 (AE _ ja!)⟩
  exact⟨q,g1,g2⟩
 have fq:(m8!).Nodup:=by
  rw[<-cZ gb,P'];simp only[BK,AK];rw[BO,AV];exact⟨be.1,be.2.1.2,λa ha b J=>be.2.2 a ha b (AE _ J)⟩
 rw[BO]at fq;have SL:kget kf a0≠none:=by rw[(m9!).mpr m1];simp
 have ii:kget kp b0≠none:=by rw[(m9_).mpr m2];simp
 refine⟨eX_,eX_,fq.1,um!,Ts (b6d h.kf_nd),Ts (b6d h.kp_nd),?_,?_⟩
 .rw[P'];show"!Q";by_cases q1:a0=a
  .show"#&"
   .show"!e";simp
   .show"#C"
    .exact absurd rfl (c6_).2.1.1
    .rw[z]
    .exact absurd rfl (c7!).2.1.1
  .rw[Hb q1];by_cases q2:n=a
   .subst q2;rw[mO h.kf_nd];show"!J"
    .show"!e"
    .show"#B"
     .exact absurd rfl (c6_).2.1.2
     .exact b9_
     .exact absurd rfl (c7!).2.1.2
   .rw[mP q2,h.f,P];show"!Q";show"!J"
    .rintro(z|⟨z,_⟩|⟨z,_⟩|z)
     .exact cx!
     .exact b9_
     .exact gG!
     .exact i8_
    .show"#B"
     .exact cx!
     .exact b9_
     .exact i8!
 .rw[P'];show"!Q";by_cases q1:b0=b
  .show"#&"
   .show"!e";simp
   .show"#B"
    .exact absurd rfl (c6_).2.2.1
    .rw[z]
    .exact absurd rfl (c7!).2.2.1
  .rw[Hb q1];by_cases q2:n=b
   .subst q2;rw[mO h.kp_nd];show"!J"
    .show"!e"
    .show"#C"
     .exact absurd rfl (c6_).2.2.2
     .exact b9_
     .exact absurd rfl (c7!).2.2.2
   .rw[mP q2,h.p,P];show"!Q";show"!J"
    .rintro(z|⟨_,z⟩|⟨_,z⟩|z)
     .exact cx!
     .exact gG!
     .exact b9_
     .exact i8_
    .show"#C"
     .exact cx!
     .exact b9_
     .exact i8!
 .have:=mV (l:=kf) (d:=n) (by rw[(m9!).mpr m2];simp);rw[mH (by rw[mP (AI vq)];exact SL)];have:=h.fl;omega
 .have:=mV (l:=kp) (d:=n) (by rw[(m9_).mpr m1];simp);rw[mH (by rw[mP (AI px)];exact ii)];have:=h.pl;omega
theorem d2f:(Str.ofString "following"==Str.ofString "preceding")=false:=by decide+kernel
theorem d1a:(Str.ofString "preceding"==Str.ofString "following")=false:=by decide+kernel
theorem rJ:(Str.ofString "following"==Str.ofString "following")=true:=by decide+kernel
theorem lkP:List.lookup (Str.ofString "preceding") [(Str.ofString "following",a),(Str.ofString "preceding",b)]=some b:=by simp[BY,d1a]
structure Iq(t:Bo)(M:Mh)(r f p:Addr)(xs:b!):Prop where
 ob:M r=some (.obj t.B5 [("following",.fn f),("preceding",.fn p)])
 dc:∃kf ef kp ep,M f=some (.dct kf ef)/\M p=some (.dct kp ep)/\iP kf kp xs
 ne:f≠p
theorem rC:Fd d=true↔d=.non:=by cases d<;>simp[Fd]
theorem Sk(hd:d≠.non):Fd d=false:=by cases q:Fd d with|false=>rfl|true=>exact absurd (rC.mp q) hd
theorem zZ{t:Bo}{M:Mh}{R:u_}(h:dW_)(hk:bo!)(hR:R (.bl (open Classical in decide (d∈xs))) M):Oi t [.fn r,d] M R:=by
 obtain⟨kf,ef,kp,ep,hf,hp,K⟩:=h.dc;refine j_;by_cases hd:d=.non
 .subst hd;have:(D.non∈xs)=False:=by simp[K.no]
  simp only[this,HV]at hR;simpa[Vt,Bz,Yr,wT,wl,f2,Aa,fC,Bh,Fd]using hR
 .have e3:(kget kf d).isSome=(open Classical in decide (d∈xs)):=by
   have:=K.hasF d;cases q:kget kf d with
   |none=>rw[q]at this;simp[hd]at this;simp[this]
   |some v=>rw[q]at this;simp[hd]at this;simp[this]
  rw[<-e3]at hR;simpa[Vt,Bz,Yr,wT,wl,f2,Aa,fC,Bh,Sk hd,w2,Bs,Mo,h.ob,Ie,Qj,hf,hk,rJ]using hR
theorem Xo{α:Type}{a:α}:∀{l:N_},a∈l->∃u v,l=u++a::v/\a∉u
 |x::r,h=>open Classical in by
  by_cases e:a=x
  .exact⟨[],r,by rw[e];rfl,I!⟩
  .obtain⟨u,v,rfl,hu⟩:=Xo ((AD.mp h).resolve_left e);exact⟨x::u,v,rfl,by simp[e,hu]⟩
theorem b3r(h0:D.non∉xs):∃u b0 v,Rt xs=u++(open Classical in if o∈xs then o else .non)::b0::v/\Rt (iI n o xs)=u++(open Classical in if o∈xs then o else .non)::n::b0::v:=by
 by_cases h:o∈xs
 .obtain⟨u,v,rfl,hu⟩:=Xo h;obtain⟨b0,v',e⟩:∃b0 v',v++[D.non]=b0::v':=by cases v with|nil=>exact bA!|cons a r=>exact bA!
  refine⟨.non::u,b0,v',?_,?_⟩
  .rw[AN h];simp[Rt,e]
  .unfold iI;rw[AN h,AN h,Tw hu];simp[Rt,e]
 .obtain⟨b0,v',e⟩:∃b0 v',xs++[D.non]=b0::v':=by cases xs with|nil=>exact bA!|cons a r=>exact bA!
  refine⟨[],b0,v',?_,?_⟩
  .rw[AH h];simp[Rt,e]
  .unfold iI;rw[AH h,AH h];simp[Rt,e]
theorem Rh{t:Bo}{M:Mh}{xs:b!}{R:u_}(h:dW_)(hn:Ge n=some kn)(ho:Ge o=some ko)(n0:n≠.non)(nx:n∉xs)(hl:k_<5000)(gf:nc_)
  (hR:∀M',Iq t M' r f p (iI n o xs)->uy!->R .non M'):Fs t [.fn r,n,o] M R:=by
 obtain⟨kf,ef,kp,ep,hf,hp,K⟩:=h.dc;have m9:r≠f:=λz=>by have:=h.ob;rw[z,hf]at this;cases this
 have jm:r≠p:=λz=>by have:=h.ob;rw[z,hp]at this;cases this
 obtain⟨u,b0,v,c1,c2⟩:=b3r (n:=n) (o:=o) K.no;generalize ea:(open Classical in if o∈xs then o else D.non)=a0 at c1 c2;have m0:(a0,b0)∈Sf aK!:=by rw[c1,Jy];simp
 have j7:kget kf a0=some b0:=(gG_).mpr m0;have K':=K.ins c1 c2 nx n0;have ka:∃k,Ge a0=some k:=by
  have:=(K.hasF a0).mp uy_;rcases this with rfl|z
  .exact K_
  .exact gf _ z
 have kb:∃k,Ge b0=some k:=by
  have:=(K.hasP b0).mp (by rw[(nd!).mpr m0];simp);rcases this with rfl|z
  .exact K_
  .exact gf _ z
 obtain⟨ka,yp⟩:=ka;obtain⟨kb,yq⟩:=kb;have l1:kf.length<big:=by have:=K.fl;unfold big;omega
 have l2:kp.length<big:=by have:=K.pl;unfold big;omega
 have l3:(eY!).length<big:=EM dX! (by have:=K.fl;unfold big;omega);have l4:(eY_).length<big:=EM dX! (by have:=K.pl;unfold big;omega);refine j_;simp only[Se,Ap,Ba,wIf,wT,Bx,wl,Ac,Ak,Aa];simp[Gg,h.ob,d2f,rJ];refine⟨⟨fW_,fW_⟩,?_⟩;refine zZ h ho ?_;have key:∀(b:Bool),b=(open Classical in decide (o∈xs))->((b=true/\o=a0)\/(b=false/\D.non=a0)):=λb J=>by
  subst J;rw[<-ea];by_cases z:o∈xs<;>simp[z]
 generalize J:(open Classical in decide (o∈xs))=b;have fin:R .non (Cg (Cg (Cg (Cg M f (.dct eY! (Lq kf a0 ef))) p (.dct eY_ (Lq kp n ep))) f (.dct (Bk eY! n b0) (Lq eY! n (Lq kf a0 ef)))) p (.dct (Bk eY_ b0 n) (Lq eY_ b0 (Lq kp n ep)))):=by
  refine hR _ uz! λb sy s9=>?_
  .rw[jc!,jc_,jc!,jc_];exact h.ob
  .rw[jd!,jd_,jd!,jd_]
 rcases key b J.symm with⟨rfl,rfl⟩|⟨rfl,rfl⟩<;>
 simpa[Ap,Ba,w2,wl,Bs,Ei,Ie,Mo,Aa,fC,f2,h.ob,rJ,lkP,Dz,hf,hp,yp,yq,hn,j7,Ux,l1,l2,l3,l4,mup_ne,mup_same,m9,jm,h.ne,AI h.ne]using fin
theorem wU{t:Bo}{M:Mh}{xs:b!}{R:u_}(h:dW_)(L:xs=u++n::v)(hn:Ge n=some kn)(hl:k_<5000)(gf:nc_)
  (hR:∀M',Iq t M' r f p bi_->uy!->R .non M'):Qn t [.fn r,n] M R:=by
 obtain⟨kf,ef,kp,ep,hf,hp,K⟩:=h.dc;have m9:r≠f:=λz=>by have:=h.ob;rw[z,hf]at this;cases this
 have jm:r≠p:=λz=>by have:=h.ob;rw[z,hp]at this;cases this
 have n0:n≠.non:=λz=>K.no (by rw[L,<-z];simp);obtain⟨b0,v',ev⟩:∃b0 v',v++[D.non]=b0::v':=by cases v with|nil=>exact bA!|cons a r=>exact bA!
 obtain⟨u',a0,eu⟩:∃u' a0,D.non::u=u'++[a0]:=⟨(je!).dropLast,(je!).getLast d_,(List.dropLast_concat_getLast d_).symm⟩;have c1:Rt xs=u'++a0::n::b0::v':=by
  rw[L];show D.non::uz_=_;rw[show D.non::uz_=je!++n::(v++bN!)by simp,eu,ev];simp
 have c2:Rt bi_=u'++a0::b0::v':=by
  show D.non::(u++v++bN!)=_;rw[show D.non::(u++v++bN!)=je!++(v++bN!)by simp,eu,ev];simp
 have m1:(a0,n)∈Sf aK!:=by rw[c1,Jy];simp
 have m2:(n,b0)∈Sf aK!:=by rw[c1,show u'++a0::n::b0::v'=(u'++[a0])++n::b0::v' by simp,Jy];simp
 have yr:kget kp n=some a0:=(nd!).mpr m1;have j7:kget kf n=some b0:=(gG_).mpr m2;have K':=K.out c1 c2 n0;have ka:∃k,Ge a0=some k:=by
  have:=(K.hasF a0).mp (by rw[(gG_).mpr m1];simp);rcases this with rfl|z
  .exact K_
  .exact gf _ z
 have kb:∃k,Ge b0=some k:=by
  have:=(K.hasP b0).mp (by rw[(nd!).mpr m2];simp);rcases this with rfl|z
  .exact K_
  .exact gf _ z
 obtain⟨ka,yp⟩:=ka;obtain⟨kb,yq⟩:=kb;have l1:(i9!).length<big:=by have:=mV (l:=kf) (d:=n) uy_;have:=K.fl;unfold big;omega
 have l2:(i9_).length<big:=by have:=mV (l:=kp) (d:=n) (by rw[yr];simp);have:=K.pl;unfold big;omega
 refine j_;have fin:R .non (Cg (Cg (Cg (Cg M p (.dct i9_ bb!)) f (.dct i9! (ef+1))) f (.dct uq_ (Lq i9! a0 (ef+1)))) p (.dct ur! (Lq i9_ b0 bb!))):=by
  refine hR _ uz! λb sy s9=>?_
  .rw[jc!,jc_,jc_,jc!];exact h.ob
  .rw[jd!,jd_,jd_,jd!]
 simpa[Vs,Ap,Ba,w2,wl,Bs,Ei,b8z,Ip,Ie,Mo,Aa,fC,f2,h.ob,rJ,lkP,hf,hp,yp,yq,hn,j7,yr,Ux,l1,l2,mup_ne,mup_same,m9,jm,h.ne,AI h.ne]using fin
theorem qV{t:Bo}{M:Mh}{xs:b!}{R:u_}(h:dW_)(hl:k_<5000)(gf:nc_)(hR:R L! M):Pm t [.fn r] M R:=by
 obtain⟨kf,ef,kp,ep,hf,hp,K⟩:=h.dc;have step:∀(done rest:b!) (ng:D) (tl:b!),xs=done++rest->rest++bN!=ng::tl->∀R',R' (.nx [some aS!,some L!,some .non]) M->
   Ga rr_ rs! (rest.length+1) [some aS!,some (.lst done),some ng] M R':=by
  intro done rest
  induction rest generalizing done with
  |nil=>
   intro ng tl e1 e2 R' gr;simp at e1 e2;obtain⟨rfl,_⟩:=e2;subst e1;simpa[Ga,Fj,fT,f2,Aa,fC,Bh,Fd]using gr
  |cons y rest ih=>
   intro ng tl e1 e2 R' gr;simp only[FA,GS]at e2;obtain⟨rfl,rfl⟩:=e2;have hy:y∈xs:=by rw[e1];simp
   have y0:y≠.non:=λz=>K.no (z▸hy);obtain⟨k,ek⟩:=gf y hy;obtain⟨nx,tl,ev⟩:∃b0 v',rest++[D.non]=b0::v':=by cases rest with|nil=>exact bA!|cons a r=>exact bA!
   have j7:kget kf y=some nx:=(gG_).mpr (by
    rw[e1,Rt,show D.non::(done++y::rest++bN!)=(D.non::done)++y::(rest++bN!)by simp,ev,Jy];simp)
   have J:done.length<big:=by have:=congrArg List.length e1;simp at this;unfold big;omega
   have:=ih (done++[y]) nx tl (by simp[e1]) ev R' gr;rw[AR,Ga];simpa[Fj,fT,f2,Aa,fC,Bh,Sk y0,Ap,wlS,Ie,iF,J,Ba,w2,wl,Bs,Mo,h.ob,rJ,Dz,hf,ek,j7]using this
 obtain⟨ng,tl,ev⟩:∃b0 v',xs++[D.non]=b0::v':=by cases xs with|nil=>exact bA!|cons a r=>exact bA!
 have j7:kget kf .non=some ng:=(gG_).mpr (by rw[Rt,ev];simp[Sf]);refine j_;simp only[bJ,Ap,wlS];simp[Ie,Vn,Ao,Ba,w2,wl,Bs,Mo,Aa,fC,h.ob,rJ,Dz,hf,j7,Ge,Kf];refine⟨k_+1,step [] xs ng tl rfl ev _ ?_⟩;simpa[Bz,wl,Aa]using hR
abbrev root:D:=.str "root"
abbrev binn:D:=.str "bin"
theorem a6c:root≠binn:=by intro z;simp only[D.str.injEq]at z;exact absurd z r!
noncomputable def Pg(x:D):Prop:=∃a b,x=.tup uC!
noncomputable def iO(x:D):Prop:=∃a b c,x=.tup uC_
theorem Pg.key(h:Pg x):∃k,Ge x=some k:=by obtain⟨a,b,rfl⟩:=h;exact K_
theorem iO.key(h:iO x):∃k,Ge x=some k:=by obtain⟨a,b,c,rfl⟩:=h;exact K_
theorem Pg.nn(h:Pg x):x≠.non/\x≠root/\x≠binn:=by obtain⟨a,b,rfl⟩:=h;refine⟨?_,?_,?_⟩<;>(intro z;cases z)
theorem iO.nn(h:iO x):x≠.non:=by obtain⟨a,b,c,rfl⟩:=h;intro z;cases z
structure OW where
 rows:List ay!
 its:List D
 txt:D->List dX_
 num:D->List D
open Classical in
noncomputable def chl(rows:h_)(x:D):List D:=(rows.filter λq=>q.2=x).map a_
open Classical in
noncomputable def wo(rows:h_)(i:D):List ay!:=rows.filter λq=>q.1≠i
inductive Wn(rows:h_)(i:D):D->Prop
 |here:Wn rows i i
 |up {x p:D}:a7_∈rows->Wn rows i p->Wn rows i x
noncomputable def nY(rows:h_)(i p s:D)(rows':h_):Prop:=∃u v,wo rows i=u++v/\rows'=u++bN_::v/\((s∉chl dY! p/\chl u p=[])\/∃u',u=u'++[c8_])
noncomputable def Lb(W:OW)(x:D):Prop:=x∈W.its\/x=root\/x=binn
structure El(W:OW):Prop where
 nd:ne_
 nm:∀x∈W.its,Pg x
 rnd:(W.rows.map a_).Nodup
 ri:∀x,x∈W.rows.map a_↔x∈W.its
 rp:∀i p,bN_∈W.rows->Lb W p
 rk:∃rk:D->Nat,∀i p,bN_∈W.rows->rk p<rk i
 snd:∀x∈W.its,(nf!).Nodup
 sg:∀x∈W.its,∀q∈W.txt x,iO q.1
 su:∀x∈W.its,∀y∈W.its,∀q∈W.txt x,∀q'∈W.txt y,q.1=q'.1->x=y
 nl:∀x∈W.its,(bO!).length=4
section
open Classical
theorem To{q:D×D}:q∈wo rows i↔q∈rows/\q.1≠i:=by unfold wo;rw[DD];simp
theorem Nj:c∈chl rows x↔(c,x)∈rows:=by
 unfold chl;rw[AX];show"!J"
 .rintro⟨⟨a,b⟩,h,rfl⟩;rw[DD]at h;have:=h.2;simp at this;rw[<-this];exact h.1
 .intro h;exact⟨(c,x),DD.mpr ⟨h,I!⟩,rfl⟩
theorem Jc:chl bi_ x=chl u x++chl v x:=by unfold chl;rw[IT,BK]
theorem Rr:chl (bN_::v) p=i::chl v p:=by unfold chl;rw[CK d_];rfl
theorem hX(h:p≠x):chl (bN_::v) x=chl v x:=by unfold chl;rw[CL jX_]
theorem a8c{rows:h_}:(chl rows x).Sublist ki!:=by unfold chl;exact(IL).map _
theorem Sv{rows:h_}:((dY!).map a_).Sublist ki!:=by unfold wo;exact(IL).map _
theorem nY.chl_same{rows:h_}(h:gH_)(nd:fq_):chl rows' p=iI i s (chl dY! p):=by
 obtain⟨u,v,e,rfl,hc⟩:=h;rw[Jc,Rr];have be:((bi_).map a_).Nodup:=by rw[<-e];exact nd.sublist Sv
 rcases hc with⟨B,Y⟩|⟨u',rfl⟩
 .unfold iI;rw[AH B,e,Jc,Y];rfl
 .rw[e];have hs:s∈chl uD_ p:=Nj.mpr d_;unfold iI;have Y:chl (u'++[c8_]) p=chl u' p++[s]:=by rw[Jc,Rr];rfl
  have h3:chl uD_ p=chl u' p++s::chl v p:=by rw[Jc,Y];simp
  rw[AN hs,Y,h3];have hu:s∉chl u' p:=λz=>by
   have:=Nj.mp z;simp only[BK,AK,FF,CN]at be;rw[BO]at be;exact be.2.2 _ uE! s d_ rfl
  rw[Tw hu];simp
theorem nY.chl_ne(h:gH_)(L:p≠x):chl rows' x=chl dY! x:=by obtain⟨u,v,e,rfl,hc⟩:=h;rw[Jc,hX L,e,Jc]
theorem nY.mem(h:gH_){q:D×D}:q∈rows'↔q=bN_\/q∈wo rows i:=by
 obtain⟨u,v,e,rfl,hc⟩:=h;rw[e];simp only[AQ,AD];show"!J"
 .rintro(z|z|z)<;>simp[z]
 .rintro(z|z|z)<;>simp[z]
theorem nY.nd{rows rows':h_}(h:gH_)(nd:fq_):(rows'.map a_).Nodup:=by
 obtain⟨u,v,e,rfl,hc⟩:=h;have be:((bi_).map a_).Nodup:=by rw[<-e];exact nd.sublist Sv
 have ni:i∉(bi_).map a_:=λz=>by
  obtain⟨q,hq,hi⟩:=AX.mp z;rw[<-e]at hq;exact(ng_).2 hi
 simp only[BK,AK]at be ni ⊢;rw[BO]at be ⊢;rw[AQ,GN]at ni;refine⟨be.1,AV.mpr ⟨ni.2,be.2.1⟩,uk!⟩;rcases AD.mp J with rfl|J
 .exact λz=>ni.1 i6!
 .exact ul_
theorem rW(h:(i,x)∉rows):chl dY! x=chl rows x:=by unfold chl wo;rw[GE];congr 1;apply DZ;intro q hq;simp only[ne_eq,decide_not,Bool.and_eq_left_iff_imp,BM,GM,DX,DV];rintro rfl z;exact h uE_
theorem a4q{rows:h_}(nd:fq_)(h:(i,x)∈rows):∃u v,chl rows x=u++i::v/\chl dY! x=u++v:=by
 obtain⟨a,b,e,_⟩:=Xo h;have n1:i∉(a++b).map a_:=by
  rw[e]at nd;simp only[BK,AK]at nd ⊢;rw[BO,AV]at nd;rw[AQ,GN];exact⟨λz=>nd.2.2 _ z i d_ rfl,nd.2.1.1⟩
 have e2:wo rows i=a++b:=by
  unfold wo;rw[e,IT,CL d_];have keep:∀l:List ay!,i∉l.map a_->l.filter (λq=>decide (q.1≠i))=l:=λl hl=>CY.mpr λq hq=>by
   simp only[ne_eq,decide_not,GM,DX,DV];exact λz=>hl jh!
  rw[BK,AQ,GN]at n1;rw[keep a n1.1,keep b n1.2]
 refine⟨chl a x,chl b x,?_,?_⟩
 .rw[e,Jc,Rr]
 .rw[e2,Jc]
theorem a1u{rows:h_}(nd:fq_)(h:a7_∈rows)(L:x≠i):Wn rows i x↔Wn rows i p:=by
 show"!J"
 .intro z;cases z with
  |here=>exact absurd rfl L
  |up Y z=>rw[Ss nd h Y];exact z
 .exact λz=>.up h z
theorem b1q(h:∀p,a7_∉rows)(L:x≠i):¬Wn rows i x:=λz=>by
 cases z with
 |here=>exact L rfl
 |up Y _=>exact h _ Y
theorem nY.winv{W:OW}(h:nY W.rows i p s rows')(w:El W)(hi:gI!)(hp:Lb W p)(hw:¬Wn W.rows i p):El {W with rows:=rows'}:=by
 refine⟨w.nd,w.nm,h.nd w.rnd,ji!,ji_,?_,w.snd,w.sg,w.su,w.nl⟩
 .show x∈rows'.map a_↔x∈W.its;rw[<-w.ri x];show"!J"
  .intro z;obtain⟨q,hq,rfl⟩:=AX.mp z;rcases h.mem.mp hq with rfl|hq
   .exact(w.ri i).mpr hi
   .exact AO (ng_).1
  .intro z;by_cases L:x=i
   .subst L;exact AX.mpr uF!
   .obtain⟨q,hq,rfl⟩:=AX.mp z;exact AO (h.mem.mpr (.inr (To.mpr ⟨hq,L⟩)))
 .show Lb W b;rcases h.mem.mp hm with z|z
  .cases z;exact hp
  .exact w.rp _ _ (To.mp z).1
 .obtain⟨rk,gu⟩:=w.rk;refine⟨λx=>if Wn W.rows i x then rk x+rk p+1 else rk x,ji_⟩;rcases h.mem.mp hm with z|z
  .cases z;show"#0";rw[AH hw,AN .here];omega
  .obtain⟨z1,z2⟩:=To.mp z;have:=gu _ _ z1;have q:=a1u w.rnd z1 z2;show"#0";by_cases c:Wn W.rows i a
   .rw[AN c,AN (q.mp c)];omega
   .rw[AH c,AH (λz=>c (q.mpr z))];exact this
noncomputable def Lz(W:OW)(n:D)(rows':h_):OW:=⟨rows',W.its++[n],λx=>if x=n then[]else W.txt x,λx=>if x=n then[.int 0,.int 0,.int 0,.int 0]else W.num x⟩
theorem nY.winv_put{W:OW}(h:nY W.rows n p s rows')(w:El W)(hn:nl_)(ht:Pg n)(hp:Lb W p):El a8!:=by
 have nn:n∉W.rows.map a_:=λz=>hn ((w.ri n).mp z);have jn:wo W.rows n=W.rows:=by
  show"!a";exact λz=>nn jh!
 have pn:p≠n:=λz=>by
  rcases hp with q|q|q
  .exact hn (z▸q)
  .exact ht.nn.2.1 (z▸q)
  .exact ht.nn.2.2 (z▸q)
 have im:∀x,x∈(a8!).its↔x∈W.its\/x=n:=λx=>by simp[Lz]
 refine⟨?_,a7!,h.nd w.rnd,ji!,ji_,?_,a7!,a7!,jk!,a7!⟩
 .show(W.its++[n]).Nodup;rw[BO];exact⟨w.nd,I!,λa ha b J=>by simp at J;subst J;exact λz=>hn i6!⟩
 .rcases(cz!).mp L with z|rfl
  .exact w.nm x z
  .exact ht
 .rw[im,<-w.ri x];show x∈rows'.map a_↔_;show"!J"
  .intro z;obtain⟨q,hq,rfl⟩:=AX.mp z;rcases h.mem.mp hq with rfl|hq
   .exact .inr rfl
   .rw[jn]at hq;exact .inl (AO hq)
  .rintro(z|rfl)
   .obtain⟨q,hq,rfl⟩:=AX.mp z;exact AO (h.mem.mpr (.inr (by rw[jn];exact hq)))
   .exact AX.mpr uF!
 .have up:∀y,Lb W y->Lb a8! y:=λy hy=>by
   rcases hy with q|q
   .exact .inl ((im y).mpr (.inl q))
   .exact .inr q
  rcases h.mem.mp hm with z|z
  .cases z;exact up _ hp
  .rw[jn]at z;exact up _ (w.rp _ _ z)
 .obtain⟨rk,gu⟩:=w.rk;refine⟨λx=>if x=n then rk p+1 else rk x,ji_⟩;rcases h.mem.mp hm with z|z
  .cases z;show"#0";rw[AH pn,j!];omega
  .rw[jn]at z;have ha:a≠n:=λq=>nn (q▸AO (f:=a_) z);have J:b≠n:=λq=>by
    rcases w.rp _ _ z with y|y|y
    .exact hn (q▸y)
    .exact ht.nn.2.1 (q▸y)
    .exact ht.nn.2.2 (q▸y)
   show"#0";rw[AH ha,AH J];exact gu _ _ z
 .show((nm_).map a_).Nodup;split
  .simp
  .rename_i q;exact w.snd x nn_
 .show∀q∈nm_,iO q.1;split
  .intro q hq;cases hq
  .rename_i q;exact w.sg x nn_
 .show∀q∈nm_,∀q'∈(if y=n then[]else W.txt y),q.1=q'.1->x=y;split
  .intro q hq;cases hq
  .rename_i q1;split
   .intro q hq q' a7;cases a7
   .rename_i q2;exact w.su x ((nn!).resolve_right q1) y (((im y).mp hy).resolve_right q2)
 .show(uG!).length=4;split
  .rfl
  .rename_i q;exact w.nl x nn_
noncomputable def b6o(b:D)(nw:ae!):List dX_->List dX_
 |[]=>[]
 |x::r=>if x.1=b then x::(nw++r)else x::b6o b nw r
noncomputable def wrT(b:D)(nw l:ae!):List dX_:=if b∈l.map a_ then b6o b nw l else nw++l
theorem mY{u:ae!}{q:e2!}(hq:q.1=b):b∉u.map a_->b6o b nw (u++q::v)=u++q::(nw++v):=by
 induction u with
 |nil=>intro _;simp[b6o,hq]
 |cons x u ih=>
  intro h;rw[AK,AD,GN]at h;simp only[FA,b6o];rw[kK!,ih h.2]
theorem dO(b:D)(nw l:ae!):∃u v,l=u++v/\wrT b nw l=u++nw++v/\((u=[]/\b∉l.map a_)\/∃u' q,u=u'++[q]/\q.1=b/\b∉u'.map a_):=by
 by_cases h:b∈l.map a_
 .obtain⟨u,v,e,hu⟩:=Xo h;obtain⟨u',r,e1,e2,e3⟩:=List.map_eq_append_iff.mp e;obtain⟨q,v',e4,e5,e6⟩:=List.map_eq_cons_iff.mp e3;subst e4;refine⟨u'++[q],v',by simp[e1],?_,.inr ⟨u',q,rfl,e5,by rw[e2];exact hu⟩⟩;unfold wrT;rw[AN h,e1,mY e5 (by rw[e2];exact hu)];simp
 .exact⟨[],l,rfl,by unfold wrT;rw[AH h];rfl,.inl ca_⟩
noncomputable def setT(W:OW)(a:D)(l:ae!):OW:={W with txt:=λx=>if x=a then l else W.txt x}
theorem dU{W:OW}{l:ae!}(w:El W)(ha:dY_)(B:(em_).Nodup)(Y:∀q∈l,iO q.1)(h3:∀q∈l,∀y∈W.its,∀q'∈W.txt y,q.1=q'.1->y=a):El no!:=by
 refine⟨w.nd,w.nm,w.rnd,w.ri,w.rp,w.rk,a7!,a7!,jk!,w.nl⟩
 .show((no_).map a_).Nodup;split
  .exact B
  .exact w.snd x L
 .show∀q∈no_,iO q.1;split
  .exact Y
  .exact w.sg x L
 .show∀q∈no_,∀q'∈(if y=a then l else W.txt y),q.1=q'.1->x=y;split
  .rename_i e1;subst e1;split
   .rename_i e2;intro _ _ _ _ _;exact e2.symm
   .intro q hq q' a7 e;exact(h3 q hq y hy q' a7 e).symm
  .split
   .rename_i e2;subst e2;intro q hq q' a7 e;exact h3 q' a7 x L q hq e.symm
   .exact w.su x L y hy
noncomputable def xE(W:OW)(a:D)(l:b!):OW:={W with num:=λx=>if x=a then l else W.num x}
theorem a8w{l:b!}(w:El W)(hl:ai_=4):El (xE W a l):=by
 refine⟨w.nd,w.nm,w.rnd,w.ri,w.rp,w.rk,w.snd,w.sg,w.su,a7!⟩;show(if x=a then l else W.num x).length=4;split
 .exact hl
 .exact w.nl x L
end
noncomputable def oF(a1 a2 a3 a4 a5 a6:Addr):List ci!:=[("parents",.fn a1),("rows",.fn a2),("texts",.fn a3),("numbers",.fn a4),("written",.fn a5),("hidden",.fn a6)]
section
variable{a1 a2 a3 a4 a5 a6:Addr}
theorem oF1:List.lookup dZ_ W!=some (D.fn a1):=by kernel_rfl
theorem oF2:List.lookup c9! W!=some (D.fn a2):=by kernel_rfl
theorem oF3:List.lookup d0! W!=some (D.fn a3):=by kernel_rfl
theorem oF4:List.lookup e3! W!=some (D.fn a4):=by kernel_rfl
theorem oF5:List.lookup np_ W!=some (D.fn a5):=by kernel_rfl
theorem oF6:List.lookup uK_ W!=some (D.fn a6):=by kernel_rfl
theorem oM1:List.lookup (Str.ofString "has") W!=none:=by kernel_rfl
theorem oM2:List.lookup (Str.ofString "has_item") W!=none:=by kernel_rfl
theorem oM3:List.lookup (Str.ofString "is_within") W!=none:=by kernel_rfl
theorem oM4:List.lookup (Str.ofString "put") W!=none:=by kernel_rfl
theorem oM5:List.lookup (Str.ofString "can_move") W!=none:=by kernel_rfl
theorem oM6:List.lookup (Str.ofString "move") W!=none:=by kernel_rfl
theorem oM7:List.lookup (Str.ofString "write") W!=none:=by kernel_rfl
theorem oM8:List.lookup (Str.ofString "cut") W!=none:=by kernel_rfl
theorem oM9:List.lookup (Str.ofString "set_number") W!=none:=by kernel_rfl
theorem d5m:List.lookup (Str.ofString "parent_of") W!=none:=by kernel_rfl
theorem d5l:List.lookup (Str.ofString "children_of") W!=none:=by kernel_rfl
theorem d5k:List.lookup (Str.ofString "signs_of") W!=none:=by kernel_rfl
theorem d5j:List.lookup (Str.ofString "text_of") W!=none:=by kernel_rfl
theorem d5i:List.lookup (Str.ofString "numbers_of") W!=none:=by kernel_rfl
end
theorem rM:List.lookup (Str.ofString "put_behind") jl_=none/\List.lookup (Str.ofString "take_out") jl_=none/\List.lookup (Str.ofString "listed") jl_=none/\List.lookup (Str.ofString "holds") jl_=none:=⟨jm!,jm!,jm!,jm!⟩
inductive fU
 |ob|par|rows|texts|nums|writ|hid|rO (x:D)|rF (x:D)|rP (x:D)|tO (x:D)|tF (x:D)|tP (x:D)|nm (x:D)|oth
structure pO(t:Bo)(M:Mh)(o:Addr)(rl:bQ!)(W:OW)(hb:Nat)(a1 a2 a3 a4 a5 a6:Addr)(k1 k2 k3 k4 k5 k6:h_):Prop where
 ob:M o=some uL_
 d1:∃e,M a1=some (.dct k1 e)
 d2:∃e,M a2=some (.dct k2 e)
 d3:∃e,M a3=some (.dct k3 e)
 d4:∃e,M a4=some (.dct k4 e)
 d5:∃e,M a5=some (.dct k5 e)
 d6:∃e,M a6=some (.dct k6 e)
 ro:rl o=.ob
 r1:rl a1=.par
 r2:rl a2=.rows
 r3:rl a3=.texts
 r4:rl a4=.nums
 r5:rl a5=.writ
 r6:rl a6=.hid
 p0:kget k1 root=some .non/\kget k1 binn=some .non
 pr:∀i p,bN_∈W.rows->kget k1 i=some p
 row:∀x,Lb W x->∃r f p,kget k2 x=some aS!/\Iq t M r f p gJ_/\rl r=.rO x/\rl f=.rF x/\rl p=.rP x
 rown:∀x,¬Lb W x->kget k2 x=none
 txt:∀x,x∈W.its->∃r f p,kget k3 x=some aS!/\Iq t M r f p nf!/\rl r=.tO x/\rl f=.tF x/\rl p=.tP x
 txtn:∀x,x∉W.its->kget k3 x=none
 num:∀x,x∈W.its->∃q,kget k4 x=some bB!/\M q=some e4!/\rl q=.nm x
 wr:∀x∈W.its,∀q∈W.txt x,kget k5 q.1=some q.2.1
 hi:∀x∈W.its,∀q∈W.txt x,(kget k6 q.1).isSome=!q.2.2
 hk:∀s,kget k6 s≠none->∃x,x∈W.its/\s∈(aE_).map a_
 l1:ns!<=hb
 l2:k2.length<=hb
 l3:k3.length<=hb
 l4:k4.length<=hb
 l5:k5.length<=hb
 l6:k6.length<=hb
 lr:cb!<=hb
 lt:∀x∈W.its,(aE_).length<=hb
 live:∀b,rl b≠.oth->M b≠none
noncomputable def Er(t:Bo)(M:Mh)(o:Addr)(rl:bQ!)(W:OW)(hb:Nat):Prop:=∃a1 a2 a3 a4 a5 a6 k1 k2 k3 k4 k5 k6,pO t M o rl W hb a1 a2 a3 a4 a5 a6 k1 k2 k3 k4 k5 k6
noncomputable def Fr(M:Mh)(rl:bQ!)(M':Mh)(ae:bQ!):Prop:=∀b,M b≠none->rl b=.oth->M' b=M b/\ae b=.oth
theorem Fr.refl{M:Mh}{rl:bQ!}:Fr M rl M rl:=λb _ h=>ca_
theorem Fr.trans{M M1 M2:Mh}{rl df pz:bQ!}(B:Fr M rl M1 df)(Y:Fr M1 df M2 pz):Fr M rl M2 pz:=λb J hr=>by
 show"!s"
section
variable{t:Bo}{M:Mh}{o:Addr}{rl:Addr->fU}{W:OW}{hb:Nat}{R:D->Mh->Prop}
theorem cI{W:OW}(w:El W)(h:cz_):∃k,Ge x=some k:=by
 rcases h with h|rfl|rfl
 .exact(w.nm x h).key
 .exact K_
 .exact K_
theorem jJ{W:OW}(w:El W):∀c∈chl W.rows x,∃k,Ge c=some k:=λc hc=>by
 have:=Nj.mp hc;exact(w.nm c ((w.ri c).mp uE!)).key
theorem vZ{W:OW}:(gJ_).length<=cb!:=by have:=(a8c (rows:=W.rows) (x:=x)).length_le;simpa using this
theorem a5k{W:OW}(w:El W)(L:aS_):∀c∈(aE_).map a_,∃k,Ge c=some k:=λc hc=>by
 obtain⟨q,hq,rfl⟩:=AX.mp hc;exact(uQ!).key
theorem pO.noOb{a1 a2 a3 a4 a5 a6:Addr}{k3:h_}(h:gK_)(hm:(W!).lookup m=none):Gg t.B4 m M ae_:=by simp[Gg,h.ob,hm]
theorem nE(h:au!)(hk:aN_)(hR:R (.bl (open Classical in decide (Lb W x))) M):Dy t d0_ M R:=by
 obtain⟨a1,a2,a3,a4,a5,a6,k1,k2,k3,k4,k5,k6,h⟩:=h;obtain⟨e2,Y⟩:=h.d2;refine j_;have e3:(kget k2 x).isSome=(open Classical in decide (Lb W x)):=by
  by_cases z:Lb W x
  .obtain⟨r,f,p,e,_⟩:=h.row x z;rw[e];simp[z]
  .rw[h.rown x z];simp[z]
 rw[<-e3]at hR;simpa[Yz,Bz,w2,wl,Bs,Mo,Ie,Aa,h.ob,oF2,Qj,Y,hk]using hR
theorem Oe(h:au!)(hk:aN_)(hR:R (.bl (open Classical in decide gL!)) M):Dx t d0_ M R:=by
 obtain⟨a1,a2,a3,a4,a5,a6,k1,k2,k3,k4,k5,k6,h⟩:=h;obtain⟨e2,Y⟩:=h.d3;refine j_;have e3:(kget k3 x).isSome=(open Classical in decide gL!):=by
  by_cases z:x∈W.its
  .obtain⟨r,f,p,e,_⟩:=h.txt x z;rw[e];simp[z]
  .rw[h.txtn x z];simp[z]
 rw[<-e3]at hR;simpa[Qb,Bz,w2,wl,Bs,Mo,Ie,Aa,h.ob,oF3,Qj,Y,hk]using hR
theorem tL(h:au!)(hk:aN_)(L:jn_)(hR:R p M):Ih t d0_ M R:=by obtain⟨a1,a2,a3,a4,a5,a6,k1,k2,k3,k4,k5,k6,h⟩:=h;obtain⟨e1,B⟩:=h.d1;refine j_;simpa[Pe,Bz,w2,wl,Bs,Mo,Ie,Aa,h.ob,oF1,Dz,B,hk,h.pr x p L]using hR
theorem nO(h:au!)(w:El W)(hB:hb<4000)(L:cz_)(hR:R d1! M):Hg t d0_ M R:=by obtain⟨a1,a2,a3,a4,a5,a6,k1,k2,k3,k4,k5,k6,h⟩:=h;obtain⟨e2,Y⟩:=h.d2;obtain⟨k,hk⟩:=cI w L;obtain⟨r,f,p,e,hr,_⟩:=h.row x L;refine j_;simp[Ms,Bz,w2,wl,Bs,Mo,Ie,Aa,h.ob,oF2,Dz,Y,hk,e,Bx,Ak,Gg,hr.ob,rM];exact qV hr (by have:=vZ (W:=W) (x:=x);have:=h.lr;omega) (jJ w) hR
theorem oT(h:au!)(w:El W)(L:aS_)(hR:R e4! M):Ht t d0_ M R:=by
 obtain⟨a1,a2,a3,a4,a5,a6,k1,k2,k3,k4,k5,k6,h⟩:=h;obtain⟨e4,h4⟩:=h.d4;obtain⟨k,hk⟩:=(w.nm x L).key;obtain⟨q,e,hq,_⟩:=h.num x L;have hl:(bO!).length<=big:=by rw[w.nl x L];decide
 refine j_;simpa[Oa,Bz,w1,Ac,Ak,w2,wl,Bs,Mo,Ie,Aa,h.ob,oF4,Dz,h4,hk,e,a7i,sO,hq,hl]using hR
end
theorem rK:∀(xs ys:A_),Qr (xs.map D.int) (ys.map D.int)=(xs==ys)
 |[],[]=>by simp[Qr]
 |[],y::ys=>by simp[Qr]
 |x::xs,[]=>by simp[Qr]
 |x::xs,y::ys=>by simp[Qr,Jb,rK xs ys]
noncomputable def Sd(d:D):Prop:=d=.non\/(∃x,d=.str x)\/(∃i,d=.int i)\/∃ns:List Int,d=.tup jg_
theorem zV:∀{xs ys:A_},xs.map D.int=ys.map D.int->xs=ys
 |[],[],_=>rfl
 |[],_::_,h=>by simp at h
 |_::_,[],h=>by simp at h
 |x::xs,y::ys,h=>by
  simp only[AK,GS,D.int.injEq]at h;rw[h.1,zV h.2]
theorem Xg(L:Sd x)(hy:Sd y):Jb x y=(open Classical in decide (x=y)):=by
 rcases L with rfl|⟨a,rfl⟩|⟨i,rfl⟩|⟨ns,rfl⟩<;>rcases hy with rfl|⟨b,rfl⟩|⟨j,rfl⟩|⟨ms,rfl⟩<;>simp[Jb,rK]
 all_goals
  rw[EH]
  first
   |(simp only[FJ,BM,D.tup.injEq];exact⟨λz=>by rw[z],zV⟩)
   |(simp only[FJ,BM])
   |simp
theorem qQ:∀(ns:A_),Dw oQ!=true
 |[]=>by simp[Dw]
 |n::ns=>by simp[Dw,Ct,qQ ns]
theorem Ig(h:Sd x):Ct x=true:=by rcases h with rfl|⟨a,rfl⟩|⟨i,rfl⟩|⟨ns,rfl⟩<;>simp[Ct,qQ]
theorem a0p:∀(ns:A_),Gz oQ!<=1
 |[]=>by simp[Gz]
 |n::ns=>by have:=a0p ns;simp[Gz,Ot];omega
theorem Rq(h:Sd x):Ot x<=5:=by
 rcases h with rfl|⟨a,rfl⟩|⟨i,rfl⟩|⟨ns,rfl⟩<;>simp[Ot]
 have:=a0p ns;omega
theorem Pg.sd(h:Pg x):Sd x:=by obtain⟨a,b,rfl⟩:=h;exact .inr nt!
theorem iO.sd(h:iO x):Sd x:=by obtain⟨a,b,c,rfl⟩:=h;exact .inr uS!
theorem Pw(x:Str):Sd dE_:=.inr (.inl ⟨x,rfl⟩)
theorem vH{W:OW}(w:El W)(h:cz_):Sd x:=by
 rcases h with h|rfl|rfl
 .exact(w.nm x h).sd
 .exact Pw _
 .exact Pw _
theorem tY(L:Sd x)(hy:Sd y):Fw x y=some (.bl (!(open Classical in decide (x=y)))):=by unfold Fw;have:=Rq L;rw[Ig L,Ig hy,Xg L hy];rw[d1_]
theorem Yg(L:Sd x)(hy:Sd y):Bu x y=some (.bl (open Classical in decide (x=y))):=by unfold Bu;have:=Rq L;rw[Ig L,Ig hy,Xg L hy];rw[d1_]
section
variable{t:Bo}{M:Mh}{o:Addr}{rl:Addr->fU}{W:OW}{hb:Nat}{R:D->Mh->Prop}
theorem Iq.keep{M':Mh}(h:dW_)(e1:M' r=M r)(e2:M' f=M f)(e3:M' p=M p):Iq t M' r f p xs:=by obtain⟨kf,ef,kp,ep,hf,hp,K⟩:=h.dc;exact⟨e1.trans h.ob,⟨kf,ef,kp,ep,e2.trans hf,e3.trans hp,K⟩,h.ne⟩
theorem Iq.live(h:dW_):M r≠none/\M f≠none/\M p≠none:=by obtain⟨kf,ef,kp,ep,hf,hp,K⟩:=h.dc;exact⟨by rw[h.ob];simp,by rw[hf];simp,by rw[hp];simp⟩
theorem bT{ρ:Ag}(hR:∀r f p M',M r=none->M f=none->M p=none->r≠f->r≠p->Iq t M' r f p []->(∀b,b≠r->b≠f->b≠p->M' b=M b)->R aS! M'):Np t.B5 1 (Oh t) Ak ρ M R:=by
 refine⟨rfl,λr hr=>j_⟩;have nf:∀{f:Addr},Cg M r (.obj t.B5 []) f=none->f≠r/\M f=none:=λ{f} z=>by
  by_cases e:f=r
  .rw[e,mup_same]at z;cases z
  .rw[mup_ne e]at z;exact⟨e,z⟩
 simp only[xZ,Ap,Hm];intro f hf;obtain⟨f1,f2⟩:=nf hf;refine⟨mup_same,Z_,by simp[Ge],I!,?_⟩;simp[wl,Aa,mup_ne,mup_same,AI f1,Dk];intro p hp;have p1:p≠r:=λe=>by rw[e,mup_same]at hp;cases hp
 rw[nv_]at hp;have p2:p≠f:=λe=>by rw[e,mup_same]at hp;cases hp
 rw[mup_ne p2,mup_ne p2,nv_]at hp;simp[Iy,aR,wl,fC,Aa,mup_ne,mup_same,AI f1,AI p1,Dk,Ge];have b7:¬(Str.ofString "following"=Str.ofString "preceding"):=by decide+kernel
 simp only[b7,BW];refine hR r f p _ hr f2 hp (AI f1) (AI p1) ⟨mup_same,⟨i2_,1,i2_,1,?_,?_,b2v⟩,AI p2⟩ λb B Y h3=>?_
 .rw[mup_ne f1,uT_,uT_,mup_ne f1,mup_same]
 .rw[nv_,mup_same]
 .rw[cc!,nw!,nw!,cc!,cA!,cA!,cc!]
theorem a2m{W:OW}(w:El W)(h:aS_):∃p,a7_∈W.rows:=by obtain⟨⟨a,p⟩,hq,rfl⟩:=AX.mp ((w.ri x).mpr h);exact⟨p,hq⟩
theorem eW{W:OW}(w:El W)(h:x∉W.its):∀p,a7_∉W.rows:=λp z=>h ((w.ri x).mp uf_)
theorem a5z{W:OW}(w:El W):root∉W.its:=λz=>(w.nm _ z).nn.2.1 rfl
theorem b8f{W:OW}(w:El W):binn∉W.its:=λz=>(w.nm _ z).nn.2.2 rfl
theorem d0i(h:Pg x\/x=root\/x=binn):x≠.non:=by
 rcases h with h|rfl|rfl
 .exact h.nn.1
 .show"!e"
 .show"!e"
theorem c7g{W:OW}(w:El W)(h:cz_):x≠.non:=d0i (h.imp_left (w.nm x))
theorem fW{k3:h_}(h:gK_)(w:El W)(hi:Pg i){rk:D->Nat}(gu:uU!):
  ∀(n:Nat) (x:D),rk x<n->Lb W x->∀(R':m_),(Wn W.rows i x->R' (.nx [C!,H_,H_]) M)->(¬Wn W.rows i x->R' (.nx [C!,some .non,H_]) M)->
   ∃m,Ga gb_ gc! m nx! M R'
 |0,x,hn,_,_,_,_=>by omega
 |n+1,x,hn,L,R',r1,r2=>by
  obtain⟨e1,B⟩:=h.d1;have x0:=c7g w L;have ne:=tY (vH w L) hi.sd;by_cases e:x=i
  .subst e;have:=r1 .here;refine e5!;simpa[Ga,Fj,Fx,fT,f2,Aa,fC,Bh,Sk x0,ne]using this
  .have st:∀(p:D) (m:Nat),kget k1 x=some p->Ga gb_ gc! m [C!,cc_,H_] M R'->
     Ga gb_ gc! (m+1) nx! M R':=λp m hp hw=>by
    obtain⟨k,hk⟩:=cI w L;rw[Ga];simpa[Fj,Fx,fT,f2,Aa,fC,Bh,Sk x0,ne,e,Ba,w2,wl,Bs,Mo,Ie,h.ob,oF1,Dz,B,hk,hp]using hw
   have top:kget k1 x=some .non->uU_->∃m,Ga gb_ gc! m nx! M R':=λhp hr=>by
    have:=r2 (b1q hr e);refine⟨1+1,st .non 1 hp ?_⟩;simpa[Ga,Fj,Fx,fT,f2,Aa,fC,Bh,Fd]using this
   rcases L with L|rfl|rfl
   .obtain⟨p,hp⟩:=a2m w L;have q:=a1u w.rnd hp e;have:=gu _ _ hp;obtain⟨m,hm⟩:=fW h w hi gu n p a! (w.rp _ _ hp) R' uV! (λz=>r2 λy=>z (q.mp y));exact⟨m+1,st p m (h.pr _ _ hp) hm⟩
   .exact top h.p0.1 (eW w (a5z w))
   .exact top h.p0.2 (eW w (b8f w))
theorem vG(h:au!)(w:El W)(L:cz_)(hi:Pg i)(hR:R (.bl (open Classical in decide (Wn W.rows i x))) M):Kn t [a8_,x,i] M R:=by
 obtain⟨a1,a2,a3,a4,a5,a6,k1,k2,k3,k4,k5,k6,h⟩:=h;obtain⟨rk,gu⟩:=w.rk;obtain⟨m,hm⟩:=fW h w hi gu (rk x+1) x a! L (λr M1=>match r with|.nx ah=>Bz (wl if_) ah M1 gN_|.rt d=>R d M1)
  (λz=>by simp only[z,HI]at hR;simpa[Bz,wl,f2,Aa,fC,Bh,Sk hi.nn.1]using hR)
  (λz=>by simp only[z,HV]at hR;simpa[Bz,wl,f2,Aa,fC,Bh,Fd]using hR)
 refine j_;simp only[Pf,Ap,Kf];exact⟨m,hm⟩
theorem a0y(h:au!)(w:El W)(cj:e6!)(gf:nx_)(hR:∀b:Bool,(b=true↔d2_)->R bI_ M):Lf t [a8_,i,x] M R:=by
 have h':=h;show"!3";simp only[Qc,Bz,Yr,wT,Bx,wl,Ac,Ak,Aa];simp[ny!];show"!g"
 .simp only[c1,HI,CF];refine⟨hA.noOb oM1,?_⟩;refine nE h gf ?_;by_cases c2:Lb W x
  .simp only[c2,HI,CF,b1t,wT,Bx,wl,Ac,Ak,Aa];refine⟨hA.noOb oM3,rfl,?_⟩;refine vG h w c2 (w.nm i c1) ?_;exact hR _ (by simp[c1,c2])
  .simp only[c2,HV];exact hR _ (by simp[c2])
 .simp only[c1,HV];exact hR _ (by simp[c1])
theorem oG{p n:Int}(h:au!)(w:El W)(cj:e6!)(p0:0<=p)(p3:p<=3)
  (hR:∀M',Er t M' o rl (open Classical in if i∈W.its then xE W i ny_ else W) hb->Fr M rl M' rl->R .non M'):Jw t [a8_,i,.int p,aK_] M R:=by
 have h':=h;show"!3";simp only[Nz,Bj,wT,Bx,wl,Ac,Ak,Aa];simp[Gg,hA.ob,oM2];show"!g"
 .simp only[c1,CF]at hR;obtain⟨e4,h4⟩:=hA.d4;obtain⟨q,e,hq,jo⟩:=hA.num i c1;have L:Iw (jp_).length p=some p.toNat:=by
   rw[w.nl i c1];unfold Iw;rw[AN p0,ab!]
  have ar:∀b,rl b≠.nm i->Cg M q (.lst ny_) b=M b:=λb J=>mup_ne λz=>J uW_;have fin:R .non (Cg M q (.lst ny_)):=by
   refine hR _ ⟨a1,a2,a3,a4,a5,a6,k1,k2,k3,k4,k5,k6,?_⟩ λb J hr=>uX!;refine{hA with ob:=?_,d1:=?_,d2:=?_,d3:=?_,d4:=?_,d5:=?_,d6:=?_,row:=?_,txt:=?_,num:=?_,live:=?_}
   .rw[ar o O_];exact hA.ob
   .rw[ar a1 bQ_];exact hA.d1
   .rw[ar a2 au_];exact hA.d2
   .rw[ar a3 aT_];exact hA.d3
   .rw[ar a4 aU!];exact hA.d4
   .rw[ar a5 aL!];exact hA.d5
   .rw[ar a6 av!];exact hA.d6
   .show"!u"
   .intro x L;obtain⟨r,f,p',g1,g2,g3,g4,g5⟩:=hA.txt x L;exact nz!
   .intro x L;by_cases c:x=i
    .subst c;refine⟨q,e,?_,jo⟩;rw[mup_same];simp[xE]
    .obtain⟨q',g1,g2,g3⟩:=hA.num x L;refine⟨q',g1,?_,g3⟩;rw[ar q' (by rw[g3];simpa using c),g2];simp[xE,c]
   .intro b J;by_cases c:b=q
    .rw[c,mup_same];simp
    .rw[mup_ne c];show"#."
  simpa[c1,Ei,w2,wl,Bs,Mo,Ie,Aa,hA.ob,oF4,Dz,h4,cj,e,Ux,hq,L]using fin
 .simp only[c1,BW]at hR;have:=hR M h .refl;simpa[c1,Di]using this
end
end K10
namespace K10
open PySem L2 DL
open Classical
section
variable{t:Bo}{M:Mh}{o:Addr}{rl:Addr->fU}{W:OW}{hb:Nat}{R:D->Mh->Prop}
theorem Er.mono{B':Nat}(h:au!)(J:hb<=B'):Er t M o rl W B':=by obtain⟨a1,a2,a3,a4,a5,a6,k1,k2,k3,k4,k5,k6,hA⟩:=h;exact⟨a1,a2,a3,a4,a5,a6,k1,k2,k3,k4,k5,k6,{hA with l1:=BN hA.l1 J,l2:=BN hA.l2 J,l3:=BN hA.l3 J,l4:=BN hA.l4 J,l5:=BN hA.l5 J,l6:=BN hA.l6 J,lr:=BN hA.lr J,lt:=λx L=>BN jq! J}⟩
theorem dX(i:D):setT W i bj_=W:=by
 unfold setT;cases W with
 |mk a b c d=>
  congr 1;funext x;show"#0";split
  .rename_i e;rw[e]
  .rfl
open Classical in
noncomputable def cutT(cm:b!)(l:ae!):List dX_:=l.map λq=>nz_
theorem b7u(l:ae!):cutT [] l=l:=by unfold cutT;simp
theorem aM(g:b!)(l:ae!):(cutT g l).map a_=l.map a_:=by unfold cutT;simp
theorem a0u(g:b!)(s:D)(l:ae!):cutT [s] (cutT g l)=cutT (g++[s]) l:=by unfold cutT;rw[CB];apply CW;intro q _;simp only[Function.comp,AQ];congr 2;rw[Bool.and_assoc];congr 1;by_cases B:q.1∈g<;>by_cases Y:q.1∈[s]<;>simp[B,Y]
theorem c2x{l:ae!}(h:s∉l.map a_):cutT [s] l=l:=by
 unfold cutT
 conv=>rhs;rw[<-JM l]
 apply CW;intro q hq;have:q.1≠s:=λz=>h jh!;simp[this]
theorem rS(w:El W)(hi:gI!)(g:b!):El nA!:=by
 refine dU w hi (by rw[aM];exact w.snd i hi) d4_ nA_
 .show"!;";exact w.sg i hi q0 h0
 .show"!;";exact(w.su i hi y hy q0 h0 q' a7 e).symm
theorem dW(i:D)(l l':ae!):setT (setT W i l) i l'=setT W i l':=by unfold setT;congr 1;funext x;dsimp only;split<;>rfl
theorem iT(i:D)(l:ae!):(setT W i l).txt i=l:=by simp[setT]
theorem c1z{ks:MK}{k3:h_}{e6:Nat}(hA:gK_)(w:El W)(hi:gI!)(hs:s∈(bj_).map a_):
  pO t (Cg M a6 nB!) o rl nC! e6_ a1 a2 a3 a4 a5 a6 k1 k2 k3 k4 k5 nB_/\Fr M rl (Cg M a6 nB!) rl:=by
 have ar:∀b,rl b≠.hid->Cg M a6 nB! b=M b:=λb J=>mup_ne λz=>J (by rw[z];exact hA.r6);refine⟨?_,λb J hr=>uX!⟩;have up:∀{x:Nat},x<=hb->x<=hb+1:=λh=>Nat.le_succ_of_le h;refine{hA with ob:=?_,d1:=?_,d2:=?_,d3:=?_,d4:=?_,d5:=?_,d6:=jq_,row:=?_,txt:=?_,num:=?_,live:=?_,wr:=?_,hi:=?_,l1:=up hA.l1,l2:=up hA.l2,l3:=up hA.l3,l4:=up hA.l4,l5:=up hA.l5,l6:=BN dX! (Nat.succ_le_succ hA.l6),lr:=up hA.lr,lt:=?_,hk:=?_}
 .rw[ar o O_];exact hA.ob
 .rw[ar a1 bQ_];exact hA.d1
 .rw[ar a2 au_];exact hA.d2
 .rw[ar a3 aT_];exact hA.d3
 .rw[ar a4 aU!];exact hA.d4
 .rw[ar a5 aL!];exact hA.d5
 .show"!u"
 .intro x L;obtain⟨r,f,p',g1,g2,g3,g4,g5⟩:=hA.txt x L;refine⟨r,f,p',g1,?_,g3,g4,g5⟩;have e:((nC!).txt x).map a_=(aE_).map a_:=by
   show u0!;split
   .rename_i z;rw[z,aM]
   .rfl
  rw[e];exact g2.keep (ar _ db_) (ar _ d3_) (ar _ d4!)
 .intro x L;obtain⟨q,g1,g2,g3⟩:=hA.num x L;exact⟨q,g1,(ar q db_).trans g2,g3⟩
 .show∀x∈W.its,∀q∈jr!,kget k5 q.1=some q.2.1;intro x L;split
  .intro q hq;show"!;";exact hA.wr i hi q0 h0
  .exact hA.wr x L
 .show∀x∈W.its,∀q∈jr!,(kget nB_ q.1).isSome=!q.2.2;intro x L;split
  .intro q hq;show"!;";show"#0";by_cases c:q0.1=s
   .rw[c,Gu];simp
   .rw[Hb (AI c),hA.hi i hi q0 h0];simp[c]
  .rename_i c;intro q hq;have:s≠q.1:=λz=>by
    obtain⟨q0,h0,e0⟩:=AX.mp hs;exact c (w.su x L i hi q hq q0 h0 (by rw[<-z,e0]))
   rw[Hb this];exact hA.hi x L q hq
 .intro s' br;have nm:∀x,((nC!).txt x).map a_=(aE_).map a_:=λx=>by
   show u0!;split
   .rename_i z;rw[z,aM]
   .rfl
  by_cases c:s=s'
  .subst c;exact⟨i,hi,by rw[nm];exact hs⟩
  .rw[Hb c]at br;obtain⟨x,B,Y⟩:=hA.hk s' br;exact⟨x,B,by rw[nm];exact Y⟩
 .show∀x∈W.its,(jr!).length<=hb+1;intro x L;split
  .rw[show(uY_).length=(bj_).length by unfold cutT;simp];exact up (hA.lt i hi)
  .exact up jq!
 .intro b J;by_cases c:b=a6
  .rw[c,mup_same];simp
  .rw[mup_ne c];show"#."
abbrev d2s(t:Bo):WS:=(Ap rG!
 rH_)
theorem nM{x y z m:Int}(hi:gI!)(w:El W):∀(js:A_) (M:Mh) (g:b!) (hb:Nat) (se yt:av_) (R:m_),hb+js.length<4000->Er t M o rl nA! hb->
  (∀M' ρ,Er t M' o rl (setT W i (cutT (g++js.map λj=>.tup js!) bj_)) (hb+js.length)->Fr M rl M' rl->R aG! M')->
  Kr (Dr 4) Q_ (d2s t) (js.map .int) [C!,H_,some d5_,some bR!,se,yt] M R
 |[],M,g,hb,se,yt,R,hB,h,hR=>⟨trivial,hR M _ jX_ .refl⟩
 |j::js,M,g,hb,se,yt,R,hB,h,hR=>by
  refine aU_;have w2:=rS w hi g;obtain⟨ki,cj⟩:=(gP!).key;have iq:=h;obtain⟨a1,a2,a3,a4,a5,a6,k1,k2,k3,k4,k5,k6,hA⟩:=iq;obtain⟨r,f,p,g1,g2,g3,g4,g5⟩:=hA.txt i hi;obtain⟨e3,h3⟩:=hA.d3;obtain⟨e6,h6⟩:=hA.d6;have l6:k6.length<big:=by have:=hA.l6;unfold big;simp at hB;omega
  simp only[AR]at hB hR;have td:Bd jt! (.tup [eH!])=some gP_:=by simp[Bd,big]
  have tf:Cy d5_ none (some 2)=some jt!:=by simp[Cy,Ha,HT.sIx]
  simp[Ie,Dr,Ap,Ba,wl,f2,Ji,Aa,Cb,Ca,fC,Cf,Ad,Ao,tf,td,Bj,wT,Bx,DL.w2,Bs,Mo,hA.ob,oF3,Dz,h3,cj,g1,Gg,g2.ob,Ac,Ak,rM,-List.lookup_eq_none_iff];refine zZ g2 gL_ ?_;rw[iT]at g2;by_cases c:D.tup js!∈((nA!).txt i).map a_
  .simp only[c,HI,CF];obtain⟨q1,q2⟩:=c1z (ks:=none) (e6:=Lq k6 gP_ e6) hA w2 hi c;rw[dW,iT,a0u]at q1;have:=nM (z:=z) (m:=m) hi w js _ nC_ e6_ (some dc!) (some gP_) R a! u1_ (λM' ρ h' f'=>hR M' ρ u2! (q2.trans f'));simpa[Ei,wl,Bs,Mo,Ie,Aa,fC,hA.ob,oF6,Ux,h6,show Ge gP_=some _ from rfl,l6]using this
  .simp only[c,HV];have q1:Er t M o rl (setT W i (cutT nC_ bj_)) e6_:=by
    rw[<-a0u,c2x (by rw[iT]at c;exact c)];exact h.mono (HK hb)
   have:=nM (z:=z) (m:=m) hi w js M nC_ e6_ (some dc!) (some gP_) R a! q1 (λM' ρ h' f'=>hR M' ρ u2! f');simpa[Di]using this
theorem c8f{x y z m:Int}(h:au!)(w:El W)(cj:e6!)(hB:gQ!)(z0:0<=z)(m1:1<=m)(SM:z+m<=16)
  (hR:∀M',Er t M' o rl (open Classical in if i∈W.its then setT W i (cutT u5! bj_)else W) bk!->Fr M rl M' rl->R .non M'):
  Rp t [a8_,i,.tup js_,d6_] M R:=by
 have h':=h;show"!3";simp only[Za,Ap,Bj,Sw,wT,Bx,wl,Ac,Ak,Aa];simp[ny!];show"!g"
 .simp only[c1,CF]at hR;have hr:vK dI_ rF! [C!,H_,some d5_,some bR!,none,none]=some ((u5_).map D.int):=by
   have e1:Aq d5_ bv!=some (.int z):=rfl;have e2:(z+m - z).toNat=m.toNat:=by congr 1;omega
   have b:-1000<=z/\z<=100000/\-1000<=z+m/\z+m<=100000:=by omega
   simp[vK,f2,Aa,fC,e1,Bd,b,e2,sZ,Function.comp]
  have:=nM (t:=t) (o:=o) (rl:=rl) (x:=x) (y:=y) (z:=z) (m:=m) c1 w u5_ M [] hb none none gN_ b3_ (by rw[b7u,dX];exact h) (λM' ρ Y f2=>hR M' (by
   simp only[CT,CB,AW,EV]at Y;exact Y.mono a!) f2)
  simp only[c1,HI,DX,BH,BW,Di,Fn,Qt,Ie,hr];exact this
 .simp only[c1,BW]at hR;have:=hR M (h.mono a!) .refl;simpa[c1,jO]using this
noncomputable def Beh(cu:D)(U l:ae!):Prop:=(U=[]/\cu∉l.map a_)\/∃u' q,U=u'++[q]/\q.1=cu/\cu∉u'.map a_
theorem Beh.names(h:u6!):iI s cu ((U++v).map a_)=(u7!).map a_:=by
 rcases h with⟨rfl,h⟩|⟨u',q,rfl,e,h⟩
 .unfold iI;rw[AH h];simp
 .unfold iI;rw[AN gS!];simp only[BK,AK,FF,CN,FA,CT];rw[e,Tw h]
theorem b1n{M1:Mh}{e5:Nat}{k3:h_}(hA:gK_)(w:El W)(hi:gI!)
  (hl:W.txt i=U++v)(J:u6!)(hs:iO s)(hf:∀x∈W.its,s∉(aE_).map a_)(g3:rl r=.tO i)(g4:rl f=.tF i)(g5:rl p=.tP i)(g1:kget k3 i=some aS!)
  (hr:Iq t M1 r f p (iI s cu ((bj_).map a_)))(fr:∀b,b≠f->b≠p->M1 b=M b):
  pO t va_ o rl nD_ e6_ a1 a2 a3 a4 a5 a6 k1 k2 k3 k4 (Bk k5 s c) k6/\Fr M rl va_ rl/\El nD_:=by
 have ar:∀b,rl b≠.writ->rl b≠.tF i->rl b≠.tP i->Cg M1 a5 nD! b=M b:=λb B Y h3=>by
  rw[mup_ne λz=>B va!];exact fr b (λz=>Y (by rw[z];exact g4)) (λz=>h3 (by rw[z];exact g5))
 have up:∀{x:Nat},x<=hb->x<=hb+1:=λh=>Nat.le_succ_of_le h;have n5:∀b,rl b≠.writ->Cg M1 a5 nD! b=M1 b:=λb B=>mup_ne λz=>B va!;have tx:∀x,(nD_).txt x=if x=i then U++(s,c,true)::v else W.txt x:=λx=>rfl
 have si:s∉(U++v).map a_:=by rw[<-hl];exact hf i hi
 refine⟨?_,λb de p6=>⟨ar b nE_ nE_ nE_,p6⟩,?_⟩
 .refine{hA with ob:=?_,d1:=?_,d2:=?_,d3:=?_,d4:=?_,d5:=jq_,d6:=?_,row:=?_,txt:=?_,num:=?_,live:=?_,wr:=?_,hi:=?_,hk:=?_,l1:=up hA.l1,l2:=up hA.l2,l3:=up hA.l3,l4:=up hA.l4,l5:=BN dX! (Nat.succ_le_succ hA.l5),l6:=up hA.l6,lr:=up hA.lr,lt:=?_}
  .rw[ar o O_ O_ O_];exact hA.ob
  .rw[ar a1 bQ_ bQ_ bQ_];exact hA.d1
  .rw[ar a2 au_ au_ au_];exact hA.d2
  .rw[ar a3 aT_ aT_ aT_];exact hA.d3
  .rw[ar a4 aU! aU! aU!];exact hA.d4
  .rw[ar a6 av! av! av!];exact hA.d6
  .intro x L;obtain⟨r',f',p',q1,q2,q3,q4,q5⟩:=hA.row x L;exact⟨r',f',p',q1,q2.keep vc_ (ar _ gT! gT! gT!) (ar _ gT_ gT_ gT_),q3,q4,q5⟩
  .intro x L;by_cases z:x=i
   .subst z;refine vd!;rw[tx,j!,<-J.names,<-hl];exact hr.keep (n5 _ db_) (n5 _ d3_) (n5 _ d4!)
   .obtain⟨r',f',p',q1,q2,q3,q4,q5⟩:=hA.txt x L;refine⟨r',f',p',q1,?_,q3,q4,q5⟩;rw[tx,AH z];exact q2.keep vc_ (ar _ gT! (by rw[q4];simpa using z) gT!) (ar _ gT_ gT_ (by rw[q5];simpa using z))
  .intro x L;obtain⟨q,q1,q2,q3⟩:=hA.num x L;exact⟨q,q1,(ar q e8! e8! e8!).trans q2,q3⟩
  .intro x L q hq;rw[tx]at hq;by_cases z:x=i
   .subst z;rw[j!]at hq;rcases AQ.mp hq with q0|q0
    .rw[Hb λy=>si (by rw[y];exact AO (BG _ q0))];exact hA.wr x hi q jv!
    .rcases AD.mp q0 with rfl|q0
     .rw[Gu]
     .rw[Hb λy=>si (by rw[y];exact AO (AS _ q0))];exact hA.wr x hi q jv_
   .rw[AH z]at hq;rw[Hb λy=>hf x L (by rw[y];exact AO hq)];exact hA.wr x L q hq
  .intro x L q hq;rw[tx]at hq;by_cases z:x=i
   .subst z;rw[j!]at hq;rcases AQ.mp hq with q0|q0
    .exact hA.hi x hi q jv!
    .rcases AD.mp q0 with rfl|q0
     .cases q:kget k6 s with
      |none=>simp[q]
      |some y=>
       obtain⟨x',B,Y⟩:=hA.hk s ca!;exact absurd Y (hf x' B)
     .exact hA.hi x hi q jv_
   .rw[AH z]at hq;exact hA.hi x L q hq
  .intro s' br;obtain⟨x,B,Y⟩:=hA.hk s' br;refine⟨x,B,?_⟩;rw[tx];by_cases z:x=i
   .subst z;rw[j!];rw[hl]at Y;simp only[BK,AK,AQ,AD]at Y ⊢;rcases Y with Y|Y
    .exact .inl Y
    .exact .inr (.inr Y)
   .rw[AH z];exact Y
  .intro x L;rw[tx];by_cases z:x=i
   .subst z;rw[j!];have:=hA.lt x hi;rw[hl]at this;simp at this ⊢;omega
   .rw[AH z];exact up jq!
  .intro b de;by_cases z:b=a5
   .rw[z,mup_same];simp
   .rw[jw!];by_cases z1:b=f
    .rw[z1];exact hr.live.2.1
    .by_cases z2:b=p
     .rw[z2];exact hr.live.2.2
     .rw[fr b z1 z2];exact hA.live b de
 .refine dU w hi ?_ d4_ nA_
  .have:=w.snd i hi;rw[hl]at this;simp only[BK,AK]at this si ⊢;rw[BO]at this ⊢;rw[AQ,GN]at si;refine⟨this.1,AV.mpr ⟨si.2,this.2.1⟩,λa ha b de=>?_⟩;rcases AD.mp de with rfl|de
   .exact λz=>si.1 i6!
   .exact this.2.2 a ha b de
  .rcases AQ.mp hq with q0|q0
   .exact w.sg i hi q jv!
   .rcases AD.mp q0 with rfl|q0
    .exact hs
    .exact w.sg i hi q jv_
  .rcases AQ.mp hq with q0|q0
   .exact(w.su i hi y hy q jv! q' a7 e).symm
   .rcases AD.mp q0 with rfl|q0
    .have e':s=q'.1:=e;exact absurd (by rw[e'];exact AO a7) (hf y hy)
    .exact(w.su i hi y hy q jv_ q' a7 e).symm
noncomputable def wrB(t:Bo):WS:=(Ap l5_
 (Ap rD!
 (Ap rE!
 (Ba 5 gf!))))
noncomputable def sgn(h n:Int)(q:Nat×Nat):D×D×Bool:=(.tup [aV!,aK_,zK_],.str ⟨#[q.1]⟩,true)
noncomputable def eN(q:Nat×Nat):D:=.tup zL!
theorem jL{h n:Int}:∀(cs:k!) (k0:Nat) (M:Mh) (W:OW) (hb:Nat) (U v:ae!) (cu:D) (ka:MK) (yu yw p7:av_) (R:m_),hb+cC_<4000->Er t M o rl W hb->El W->i∈W.its->W.txt i=U++v->Beh cu U (U++v)->Ge cu=some ka->
  (∀x∈W.its,∀k':Nat,k0<=k'->D.tup vf_∉(aE_).map a_)->
  (∀M' ρ,Er t M' o rl vg! (hb+cC_)->El vg!->Fr M rl M' rl->R aG! M')->
  Kr (a8e 6 7) Q_ (wrB t) ((nG!).map eN) [C!,bk_,H_,d8!,some tx,some cu,yu,yw,p7] M R
 |[],k0,M,W,hb,U,v,cu,ka,yu,yw,p7,R,hB,hO,w,hi,hl,J,hk,hf,hR=>by
  refine⟨trivial,hR M _ ?_ ?_ .refl⟩
  .simp only[HX,FF,BL,EW,Nat.add_zero];rw[<-hl,dX];exact hO
  .simp only[HX,FF,BL];rw[<-hl,dX];exact w
 |c::cs,k0,M,W,hb,U,v,cu,ka,yu,yw,p7,R,hB,hO,w,hi,hl,J,hk,hf,hR=>by
  rw[FV,AK];refine aU_;obtain⟨ki,cj⟩:=(gP!).key;obtain⟨a1,a2,a3,a4,a5,a6,k1,k2,k3,k4,k5,k6,hA⟩:=hO;obtain⟨r,f,p,g1,g2,g3,g4,g5⟩:=hA.txt i hi;obtain⟨e3,h3⟩:=hA.d3;obtain⟨e5,h5⟩:=hA.d5;simp only[AR]at hB hR;have l5:k5.length<big:=by have:=hA.l5;unfold big;omega
  have hs:iO ce!:=vh!;have yx:∀x∈W.its,D.tup jy!∉(aE_).map a_:=λx L=>hf x L k0 x_;have td:Bd af! (.tup [.int (k0:Nat)])=some ce!:=by simp[Bd,big]
  have hm:Gg t.B5 "put_behind" M aS!:=by simp only[Gg,g2.ob,rM.1,and_self]
  have L:∀R',w2 Dz eF! F! nG_ M R'=R' aS! M:=by
   intro R';simp[w2,wl,Bs,Mo,hA.ob,oF3,Dz,h3,cj,g1,Ie,Aa]
  show wrB t nH! M _;show Ap l5_ _ nH! M _;have e8:f2 Bd w! (Cf l5!) nH!=some ce!:=by
   simp[f2,Aa,Cf,Ad,Ao,td]
  simp only[Ap,Ba,wl,e8,List.set_cons_succ,List.set_cons_zero,En,Bx,L];refine⟨hm,rfl,?_⟩;refine Rh g2 gL_ hk hs.nn (yx i hi) (by have:=hA.lt i hi;simp;omega) (a5k w hi) λM1 hr fr=>?_;have SN:M1 a5=some (.dct k5 e5):=by
   rw[fr a5 (λz=>by have:=hA.r5;rw[z,g4]at this;cases this) (λz=>by have:=hA.r5;rw[z,g5]at this;cases this)];exact h5
  have SO:M1 o=some uL_:=by
   rw[fr o (λz=>by have:=hA.ro;rw[z,g4]at this;cases this) (λz=>by have:=hA.ro;rw[z,g5]at this;cases this)];exact hA.ob
  obtain⟨q1,q2,q3⟩:=b1n (c:=gE!) (e5:=Lq k5 ce! e5) hA w hi hl J hs yx g3 g4 g5 g1 hr fr;have hU:U++vi!::v=(U++[vi!])++v:=by simp
  have:=jL (b:=b) (tx:=tx) (h:=h) (n:=n) cs (k0+1) _ vi_ e6_ (U++[nI!]) v ce! _ (some jy_) (some gD_) (some ce!) R
   (a!) u1_ q3 hi (by rw[iT,hU]) (.inr ⟨U,_,rfl,rfl,λz=>yx i hi vj!⟩) gL_
   (λx L k' cr z=>by
    have tx:(vi_).txt x=if x=i then U++nI!::v else W.txt x:=rfl
    rw[tx]at z;by_cases y:x=i
    .subst y;rw[j!]at z;simp only[BK,AK,AQ,AD]at z;rcases z with z|z|z
     .exact hf x hi k' a! vj!
     .simp at z;omega
     .exact hf x hi k' a! (by rw[hl,BK];exact AS _ z)
    .rw[AH y]at z;exact hf x L k' a! z)
   (λM' ρ B Y f'=>hR M' ρ (by
    rw[dW]at B;rw[show hb+(cs.length+1)=hb+1+cs.length by omega,FV];simpa[sgn]using B) (by
    rw[dW]at Y;rw[FV];simpa[sgn]using Y) (q2.trans f'))
  have hp:∀R',Ei rD_ gf! (wl bx!) nG_ M1 R'=R' (.nx nG_) (Cg M1 a5 (.dct (Bk k5 ce! gD_) (Lq k5 ce! e5))):=by
   intro R';simp[Ei,wl,Bs,Mo,Ie,Aa,fC,SO,oF5,Ux,SN,show Ge ce!=some _ from rfl,l5]
  simp only[hp];exact this
theorem b1p{h n:Int}{s:Str}(hO:au!)(w:El W)(cj:e6!)(yy:Ge b=some kb)(hB:gQ!)(hs:jA!)
  (hf:∀x∈W.its,∀k':Nat,D.tup vf_∉(aE_).map a_)
  (hR:∀M',Er t M' o rl vk! bk!->El vk!->Fr M rl M' rl->R .non M'):
  Pa t [a8_,gV!,i,b,dd_] M R:=by
 have h':=hO;show"!3";simp only[Ul,Ap,Bj,Sw,wT,Bx,wl,Ac,Ak,Aa];simp[ny!];refine Oe hO cj ?_;by_cases c1:i∈W.its
 .simp only[c1,CF]at hR;obtain⟨U,v,e1,e2,e3⟩:=dO b d9_ bj_;have hl:gV_<=16:=by simpa[Str.length]using hs
  have hi:vL L_ [C!,bk_,H_,d8!,some aw_,d8!,none,none,none]=some (s.cps.toList.zipIdx.map eN):=by
   simp[vL,Aa,eN]
  have:=jL (t:=t) (o:=o) (rl:=rl) (b:=b) (tx:=dd_) (h:=h) (n:=n) s.cps.toList 0 M W hb U v b kb none none none gN_ a! hO w c1 e1 (by rw[<-e1];exact e3) yy (λx L k' _=>hf x L k')
   (λM' ρ B Y f'=>hR M' (by rw[<-e2]at B;exact B.mono a!) (by rw[<-e2]at Y;exact Y) f')
  simp only[c1,HI,DX,BH,BW,Di,Ba,wl,Fn,Qt,Ie];simp only[Aa,List.getElem?_cons_zero,List.getElem?_cons_succ,Option.join_some,List.set_cons_succ,List.set_cons_zero];simp only[hi];exact this
 .simp only[c1,BW]at hR;have:=hR M nJ! w .refl;simpa[c1,jO]using this
theorem Bl{N:Mh}(J:N b≠none)(hc:N c=none):b≠c:=λz=>J (by rw[z];exact hc)
theorem b7z(h:∀i,(i,x)∉rows):chl rows x=[]:=by
 cases e:chl rows x with
 |nil=>rfl
 |cons a l=>exact absurd (Nj.mp (by rw[e];simp:a∈chl rows x)) (h a)
theorem Iq.rne(h:dW_):r≠f/\r≠p:=by
 obtain⟨kf,ef,kp,ep,hf,hp,K⟩:=h.dc;refine⟨cH_,cH_⟩
 .have:=h.ob;rw[z,hf]at this;cases this
 .have:=h.ob;rw[z,hp]at this;cases this
theorem b3q{f1 p1 f2 p2:Addr}{k3:h_}{M2 M3 M5:Mh}{e1 e2 e3 e4:Nat}(hA:gK_)(w:El W)(hn:nl_)(ht:Pg n)(hp:Lb W pl)
  (hg:nY W.rows n pl b rows')(g1:kget k2 pl=some aS!)(g3:rl r=.rO pl)(g4:rl f=.rF pl)(g5:rl p=.rP pl)
  (R2:Iq t M2 r f p (iI n b (chl W.rows pl)))(K2:∀c,c≠f->c≠p->M2 c=Cg M a1 (.dct nK! e1) c)
  (z1:M2 r1=none)(z2:M2 f1=none)(z3:M2 p1=none)(R3:Iq t M3 r1 f1 p1 [])(K3:∀c,c≠r1->c≠f1->c≠p1->M3 c=M2 c)
  (y1:Cg M3 a2 gW! r2=none)(y2:Cg M3 a2 gW! f2=none)(y3:Cg M3 a2 gW! p2=none)(R5:Iq t M5 r2 f2 p2 [])(K5:∀c,c≠r2->c≠f2->c≠p2->M5 c=Cg M3 a2 gW! c)
  (x1:Cg M5 a3 nM! q=none):
  ∃ae,pO t vm_ o ae a8! bk! a1 a2 a3 a4 a5 a6 nK! nL! nL_ (Bk k4 n bB!) k5 k6/\
   Fr M rl vm_ ae:=by
 have az:∀{c d:Addr},rl c≠rl d->c≠d:=λh z=>h gW_;have lv:∀c,rl c≠.oth->M c≠none:=hA.live;have A1:M a1≠none:=lv _ bQ_;have A2:M a2≠none:=lv _ au_;have A3:M a3≠none:=lv _ aT_;have A4:M a4≠none:=lv _ aU!;have AF:M f≠none:=lv _ d3_;have AP:M p≠none:=lv _ d4!;have s2:∀c,M c≠none->M2 c≠none:=λc hc=>by
  by_cases c1:c=f
  .rw[c1];exact R2.live.2.1
  .by_cases c2:c=p
   .rw[c2];exact R2.live.2.2
   .rw[K2 c c1 c2];by_cases c3:c=a1
    .rw[c3,mup_same];simp
    .rw[nM_];exact hc
 have ir:∀c,M c≠none->c≠r1/\c≠f1/\c≠p1:=λc hc=>⟨Bl nN! z1,Bl nN! z2,Bl nN! z3⟩;have s3:∀c,M c≠none->M3 c≠none:=λc hc=>by rw[nO_];exact s2 c hc
 have vt:∀c,M3 c≠none->Cg M3 a2 gW! c≠none:=λc hc=>by
  by_cases c3:c=a2
  .rw[c3,mup_same];simp
  .rw[nM_];exact hc
 have gg:∀c,M3 c≠none->c≠r2/\c≠f2/\c≠p2:=λc hc=>⟨Bl nP! y1,Bl nP! y2,Bl nP! y3⟩;have fw:∀c,M3 c≠none->M5 c≠none:=λc hc=>by rw[vn!];exact vt c hc
 have MM:∀c,M5 c≠none->Cg M5 a3 nM! c≠none:=λc hc=>by
  by_cases c3:c=a3
  .rw[c3,mup_same];simp
  .rw[nM_];exact hc
 have nq:∀c,M5 c≠none->c≠q:=λc hc=>Bl (MM c hc) x1;have SQ:a1≠f:=az (by rw[hA.r1,g4];simp);have SS:a1≠p:=az (by rw[hA.r1,g5];simp);have fin:∀c,M c≠none->c≠a1->c≠f->c≠p->c≠a2->c≠a3->c≠a4->Cg ea_ a4 eb! c=M c:=λc hc B Y h3 h4 h5 h6=>by
  rw[gX!,vn_,jC!,vo!,nQ_,nO_,K2 c Y h3,cc!]
 have tj:∀c,M c≠none->c≠a2->c≠a3->c≠a4->Cg ea_ a4 eb! c=M2 c:=λc hc h4 h5 h6=>by
  rw[gX!,vn_,jC!,vo!,nQ_,nO_]
 have MN:∀c,M3 c≠none->c≠a2->c≠a3->c≠a4->Cg ea_ a4 eb! c=M3 c:=λc hc h4 h5 h6=>by
  rw[gX!,mup_ne (nq c (fw c hc)),jC!,vn!,nQ_]
 have vw:∀c,M5 c≠none->c≠a3->c≠a4->Cg ea_ a4 eb! c=M5 c:=λc hc h5 h6=>by
  rw[gX!,vo_,jC!]
 generalize SU:Cg ea_ a4 eb!=M8 at fin tj MN vw;have MO:=R3.rne;have MQ:=R5.rne;obtain⟨v1,v2,v3⟩:=R3.live;obtain⟨v4,v5,v6⟩:=R5.live
 let ae:Addr->fU:=λc=>if c=r1 then .rO n else if c=f1 then .rF n else if c=p1 then .rP n else if c=r2 then .tO n else if c=f2 then .tF n else if c=p2 then .tP n else if c=q then .nm n else rl c
 have ao:∀c,M c≠none->ae c=rl c:=λc hc=>by
  have B:=ir c hc;have Y:=gg c jB!;have h3:=nq c (fw c jB!);show vp!=_;rw[AH B.1,AH B.2.1,AH B.2.2,AH Y.1,AH Y.2.1,AH Y.2.2,AH h3]
 have q1:ae r1=.rO n:=AN rfl;have q2:ae f1=.rF n:=by show(if f1=r1 then _ else _)=_;rw[AH (AI MO.1),j!]
 have q3:ae p1=.rP n:=by show(if p1=r1 then _ else _)=_;rw[AH (AI MO.2),AH (AI R3.ne),j!]
 have w1:∀c,M3 c≠none->c≠r2/\c≠f2/\c≠p2:=gg;have q4:ae r2=.tO n:=by show(if r2=r1 then _ else _)=_;rw[AH (AI (nR!).1),AH (AI (nR_).1),AH (AI (nS!).1),j!]
 have q5:ae f2=.tF n:=by show(if f2=r1 then _ else _)=_;rw[AH (AI (nR!).2.1),AH (AI (nR_).2.1),AH (AI (nS!).2.1),AH (AI MQ.1),j!]
 have q6:ae p2=.tP n:=by show(if p2=r1 then _ else _)=_;rw[AH (AI (nR!).2.2),AH (AI (nR_).2.2),AH (AI (nS!).2.2),AH (AI MQ.2),AH (AI R5.ne),j!]
 have q7:ae q=.nm n:=by
  show(if q=r1 then _ else _)=_;rw[AH (AI (nq _ (fw _ v1))),AH (AI (nq _ (fw _ v2))),AH (AI (nq _ (fw _ v3))),AH (AI (nq _ v4)),AH (AI (nq _ v5)),AH (AI (nq _ v6)),j!]
 have na:∀c,M c≠none->vt!:=ir;have im:∀x,x∈(a8!).its↔x∈W.its\/x=n:=λx=>by simp[Lz]
 have jn:wo W.rows n=W.rows:=by
  show"!a";exact λz=>hn ((w.ri n).mp jh!)
 have nP:¬Lb W n:=λz=>z.elim hn λz=>z.elim ht.nn.2.1 ht.nn.2.2;have MU:∀x,Lb a8! x↔Lb W x\/x=n:=λx=>by unfold Lb;rw[im];constructor<;>(intro z;rcases z with(z|z)|z<;>simp[z])
 have up:∀{x:Nat},x<=hb->x<=hb+20:=λh=>by omega
 have up1:∀{l:h_} {d v:D},ai_<=hb->(eW_).length<=hb+20:=λh=>BN dX! a!;have c1:∀c,rl c≠.oth->rl c≠.par->rl c≠.rows->rl c≠.texts->rl c≠.nums->rl c≠.rF pl->rl c≠.rP pl->M8 c=M c:=λc h0 B Y h3 h4 h5 h6=>
  fin c (lv c h0) (λz=>B nT!) (λz=>h5 nU!) (λz=>h6 nU_) (λz=>Y (by rw[z,hA.r2])) (λz=>h3 (by rw[z,hA.r3])) (λz=>h4 (by rw[z,hA.r4]))
 refine⟨ae,?_,λc hc hr=>⟨fin c hc (az (by rw[hr,hA.r1];simp)) (az (by rw[hr,g4];simp)) (az (by rw[hr,g5];simp)) (az (by rw[hr,hA.r2];simp)) (az (by rw[hr,hA.r3];simp)) (az (by rw[hr,hA.r4];simp)),by rw[ao c hc];exact hr⟩⟩;have e8:∀c,M8 c=Cg ea_ a4 eb! c:=λc=>by rw[SU]
 have WZ:=x1;refine
  {ob:=(c1 o O_ O_ O_ O_ O_ O_ O_).trans hA.ob
   d1:=⟨e1,?d1⟩,d2:=⟨e2,?d2⟩,d3:=⟨e3,?d3⟩,d4:=⟨e4,?d4⟩,d5:=?d5,d6:=?d6
   ro:=(ao o (lv o O_)).trans hA.ro,r1:=(ao a1 A1).trans hA.r1,r2:=(ao a2 A2).trans hA.r2,r3:=(ao a3 A3).trans hA.r3,r4:=(ao a4 A4).trans hA.r4
   r5:=(ao a5 (lv _ aL!)).trans hA.r5,r6:=(ao a6 (lv _ av!)).trans hA.r6
   p0:=⟨by rw[Hb ht.nn.2.1];exact hA.p0.1,by rw[Hb ht.nn.2.2];exact hA.p0.2⟩
   pr:=?pr,row:=?row,rown:=?rown,txt:=?txt,txtn:=?txtn,num:=?num,wr:=?wr,hi:=?hi,hk:=?hk
   l1:=up1 hA.l1,l2:=up1 hA.l2,l3:=up1 hA.l3,l4:=up1 hA.l4,l5:=up hA.l5,l6:=up hA.l6,lr:=?lr,lt:=?lt,live:=?live}
 case d1=>rw[tj a1 A1 (az (by rw[hA.r1,hA.r2];simp)) (az (by rw[hA.r1,hA.r3];simp)) (az (by rw[hA.r1,hA.r4];simp)),K2 a1 SQ SS,mup_same]
 case d2=>
  have h3:=s3 a2 A2;rw[e8,mup_ne (az (by rw[hA.r2,hA.r4];simp)),mup_ne (nq a2 (fw a2 h3)),mup_ne (az (by rw[hA.r2,hA.r3];simp)),K5 a2 (nW!).1 (nW!).2.1 (nW!).2.2,mup_same]
 case d3=>rw[e8,mup_ne (az (by rw[hA.r3,hA.r4];simp)),mup_ne (nq a3 (fw a3 (s3 a3 A3))),mup_same]
 case d4=>rw[e8,mup_same]
 case d5=>rw[c1 a5 aL! aL! aL! aL! aL! aL! aL!];exact hA.d5
 case d6=>rw[c1 a6 av! av! av! av! av! av! av!];exact hA.d6
 case pr=>
  intro i p' hm;rcases hg.mem.mp hm with z|z
  .cases z;rw[Gu]
  .rw[jn]at z;rw[Hb λy=>eW w hn p' vD_];exact hA.pr i p' z
 case row=>
  intro x L;rcases(MU x).mp L with L|rfl
  .obtain⟨r',f',p',u1,u2,u3,u4,u5⟩:=hA.row x L;have xn:n≠x:=λz=>nP jH!;have L1:=lv r' aj_;have L2:=lv f' aF!;have L3:=lv p' aF_;by_cases vx:pl=x
   .subst vx;rw[g1]at u1;cases u1;refine⟨r,f,p,by rw[Hb xn];exact g1,?_,(ao r L1).trans g3,(ao f AF).trans g4,(ao p AP).trans g5⟩;show Iq t M8 r f p (chl rows' pl);rw[vF_,jn];exact R2.keep (tj r L1 (az (by rw[g3,hA.r2];simp)) (az (by rw[g3,hA.r3];simp)) (az (by rw[g3,hA.r4];simp))) (tj f AF (az (by rw[g4,hA.r2];simp)) (az (by rw[g4,hA.r3];simp)) (az (by rw[g4,hA.r4];simp))) (tj p AP (az (by rw[g5,hA.r2];simp)) (az (by rw[g5,hA.r3];simp)) (az (by rw[g5,hA.r4];simp)))
   .refine⟨r',f',p',nX!,?_,(ao r' L1).trans u3,(ao f' L2).trans u4,(ao p' L3).trans u5⟩;show Iq t M8 r' f' p' (chl rows' x);rw[hg.chl_ne vx,jn];exact u2.keep vH! (c1 f' aF! aF! aF! aF! aF! (by rw[u4];simpa using AI vx) aF!) (c1 p' aF_ aF_ aF_ aF_ aF_ aF_ (by rw[u5];simpa using AI vx))
  .refine⟨r1,f1,p1,Gu _ _ _,?_,q1,q2,q3⟩;have np:pl≠x:=λz=>nP (z▸hp);show Iq t M8 r1 f1 p1 (chl rows' x);rw[hg.chl_ne np,jn,b7z λi z=>nP (w.rp _ _ z)];have e:∀c,M3 c≠none->(∀d,M d≠none->d≠c)->M8 c=M3 c:=λc B Y=>MN c B (AI (Y a2 A2)) (AI (Y a3 A3)) (AI (Y a4 A4));exact R3.keep (e r1 v1 λd hd=>(nY!).1) (e f1 v2 λd hd=>(nY!).2.1) (e p1 v3 λd hd=>(nY!).2.2)
 case rown=>
  intro x L;rw[MU,GN]at L;rw[Hb (AI L.2)];exact hA.rown x L.1
 case txt=>
  intro x L;rcases(cz!).mp L with L|rfl
  .obtain⟨r',f',p',u1,u2,u3,u4,u5⟩:=hA.txt x L;have xn:n≠x:=λz=>hn jH!;refine⟨r',f',p',nX!,?_,(ao r' (lv r' aj_)).trans u3,(ao f' (lv f' aF!)).trans u4,(ao p' (lv p' aF_)).trans u5⟩;have e:(a8!).txt x=W.txt x:=by show fc_=_;rw[AH (AI xn)]
   rw[e];exact u2.keep vH! (c1 f' aF! aF! aF! aF! aF! aF! aF!) (c1 p' aF_ aF_ aF_ aF_ aF_ aF_ aF_)
  .refine⟨r2,f2,p2,Gu _ _ _,?_,q4,q5,q6⟩;have e:(g1!).txt x=[]:=by show g1_=_;rw[j!]
   rw[e];have o3:=w1 a3 (s3 a3 A3);have o4:=w1 a4 (s3 a4 A4);exact R5.keep (vw r2 v4 (AI o3.1) (AI o4.1)) (vw f2 v5 (AI o3.2.1) (AI o4.2.1)) (vw p2 v6 (AI o3.2.2) (AI o4.2.2))
 case txtn=>
  intro x L;rw[im,GN]at L;rw[Hb (AI L.2)];exact hA.txtn x L.1
 case num=>
  intro x L;rcases(cz!).mp L with L|rfl
  .obtain⟨q',u1,u2,u3⟩:=hA.num x L;have xn:n≠x:=λz=>hn jH!;refine⟨q',nX!,?_,(ao q' (lv q' aj_)).trans u3⟩;have e:(a8!).num x=W.num x:=by show fc_=_;rw[AH (AI xn)]
   rw[e,c1 q' aj_ aj_ aj_ aj_ aj_ aj_ aj_];exact u2
  .refine⟨q,Gu _ _ _,?_,q7⟩;have e:(g1!).num x=vm!:=by show g1_=_;rw[j!]
   rw[e,e8,vI_,mup_same]
 case wr=>
  intro x L q0 hq;rcases(cz!).mp L with L|rfl
  .have e:(a8!).txt x=W.txt x:=by show fc_=_;rw[nZ!]
   rw[e]at hq;exact hA.wr x L q0 hq
  .have e:(g1!).txt x=[]:=by show g1_=_;rw[j!]
   rw[e]at hq;cases hq
 case hi=>
  intro x L q0 hq;rcases(cz!).mp L with L|rfl
  .have e:(a8!).txt x=W.txt x:=by show fc_=_;rw[nZ!]
   rw[e]at hq;exact hA.hi x L q0 hq
  .have e:(g1!).txt x=[]:=by show g1_=_;rw[j!]
   rw[e]at hq;cases hq
 case hk=>
  intro s hs;obtain⟨x,B,Y⟩:=hA.hk s hs;refine⟨x,(cz!).mpr (.inl B),?_⟩;have e:(a8!).txt x=W.txt x:=by show fc_=_;rw[AH (λz:x=n=>hn (z▸B))]
  rw[e];exact Y
 case lr=>
  obtain⟨u,v,e,rfl,_⟩:=hg;rw[jn]at e;show(u++(n,pl)::v).length<=_;have:=hA.lr;rw[e]at this;simp at this ⊢;omega
 case lt=>
  intro x L;rcases(cz!).mp L with L|rfl
  .have e:(a8!).txt x=W.txt x:=by show fc_=_;rw[nZ!]
   rw[e];exact up jq!
  .have e:(g1!).txt x=[]:=by show g1_=_;rw[j!]
   rw[e];simp
 case live=>
  intro c hc;have s8:∀c,M5 c≠none->M8 c≠none:=λc hc=>by
   rw[e8];by_cases h6:c=a4
   .rw[h6,mup_same];simp
   .rw[gX!,vo_];exact MM c hc
  by_cases hM:M c=none
  .by_cases tu:c=r1
   .rw[tu];exact s8 _ (fw _ v1)
   .by_cases tz:c=f1
    .rw[tz];exact s8 _ (fw _ v2)
    .by_cases j8:c=p1
     .rw[j8];exact s8 _ (fw _ v3)
     .by_cases j9:c=r2
      .rw[j9];exact s8 _ v4
      .by_cases nh:c=f2
       .rw[nh];exact s8 _ v5
       .by_cases t3:c=p2
        .rw[t3];exact s8 _ v6
        .by_cases t6:c=q
         .rw[t6,e8,vI_,mup_same];simp
         .have:ae c=rl c:=by show vp!=_;rw[AH tu,AH tz,AH j8,AH j9,AH nh,AH t3,AH t6]
          rw[this]at hc;exact absurd hM (lv c hc)
  .exact s8 _ (fw _ (s3 c hM))
end
section
variable{t:Bo}{M:Mh}{ρ:Ag}{R:Fl->Mh->Prop}
theorem sM{fo fi f:WE}{q:WS}(h:f ρ M λv M1=>fo ρ M1 λd M2=>fi ρ M2 λy M3=>Ie pC! λM4=>q ρ M4 R):Ap (Ei fo fi f) q ρ M R:=by exact h
theorem b2l{f:WE}{q:WS}(h:f ρ M λ_ M1=>q ρ M1 R):Ap (En f) q ρ M R:=h
theorem bL{o:Addr}{fs:aN!}{kvs:h_}{ep:Nat}{fo fi:e!}{Q:bE!}(h0:fo ρ=some ae_)(B:fi ρ=some y)(hM:M o=some g2!)(L:fs.lookup x=some D_)(hp:bS_)(hk:ck!)(hl:dr!)
  (hQ:Q hF!):Bs C x df_ ρ M (λd M2=>wl fi ρ M2 λy M3=>Ie pC! λM4=>Q M4):=by
 have e:Ux M D_ y v=some hF!:=by simp[Ux,hp,hk,hl]
 simp only[Bs,wl,h0,Mo,hM,CF,L,Ie,B,e];exact hQ
theorem d1t{g:WF}{fo:WE}{f1 f2:e!}{K:u_}(h0:∀K,fo ρ M K=K d M)(ho:kR!)(B:fd!)(Y:g2_)(k:g [d,a,b] M K):Bx C m 3 g fo vK_ ρ M K:=by unfold Bx Ac Ak;rw[h0];simp only[wl,B,Y];exact nZ_
noncomputable def c3x(t:Bo):WS:=Ap rx!
 (Ap rx_
 (Ap wC!
 (Ap wC_
 ry_)))
end
section
variable{t:Bo}{M:Mh}{o:Addr}{rl:Addr->fU}{W:OW}{hb:Nat}{R:D->Mh->Prop}
theorem c5w(hO:au!)(w:El W)(hn:nl_)(ht:Pg n)(li:dg!)(yy:Ge b=some kb)(hB:gQ!)(hg:nY W.rows n dg_ b rows')
  (hR:∀M' ae,Er t M' o ae a8! bk!->Fr M rl M' ae->R .non M'):Ro t [a8_,n,a,b] M R:=by
 have h':=hO;obtain⟨a1,a2,a3,a4,a5,a6,k1,k2,k3,k4,k5,k6,hA⟩:=h';obtain⟨e1,B⟩:=hA.d1;obtain⟨e2,Y⟩:=hA.d2;obtain⟨e3,h3⟩:=hA.d3;obtain⟨e4,h4⟩:=hA.d4;obtain⟨kn,f7⟩:=ht.key;have az:∀{c d:Addr},rl c≠rl d->c≠d:=λh z=>h gW_;have lv:∀c,rl c≠.oth->M c≠none:=hA.live;have L1:ns!<big:=by have:=hA.l1;unfold big;omega
 have L2:k2.length<big:=by have:=hA.l2;unfold big;omega
 have L3:k3.length<big:=by have:=hA.l3;unfold big;omega
 have L4:k4.length<big:=by have:=hA.l4;unfold big;omega
 have hp:Lb W dg_:=by split;assumption;exact .inr eZ_
 refine j_;have hm:Gg t.B4 "has" M ae_:=hA.noOb oM1;generalize hK:vL_=KK;have gr:∀ρ' M',R .non M'->KK cL_ M':=λρ' M' z=>by rw[<-hK];exact z
 have key:∀pl,pl=dg_->c3x t dh_ M KK:=by
  intro pl SV;rw[<-SV]at hg hp;obtain⟨r,f,p,g1,g2,g3,g4,g5⟩:=hA.row pl hp;obtain⟨W3,SW⟩:=cI w hp;refine sM ?_;have f4:Aa 4 dh_=some pl:=rfl;have ll:Aa 1 dh_=some n:=rfl;have f3:Aa 3 dh_=some b:=rfl;have f0:Aa 0 dh_=some ae_:=rfl;show wl L_ dh_ M _;simp only[wl,f4];refine bL f0 ll hA.ob oF1 B f7 L1 ?_;refine b2l ?_;have n1:∀c,rl c≠.par->Cg M a1 n0_ c=M c:=λc hc=>mup_ne λz=>hc nT!;have t9:∀R',w2 Dz ct_ a1_ dh_ n1! R'=R' aS! n1!:=by
   intro R';simp[w2,wl,Bs,Mo,n1 o O_,n1 a2 au_,hA.ob,oF2,Dz,Y,SW,g1,Ie,Aa]
  have ua:=g2.keep (M':=Cg M a1 n0_) (n1 r db_) (n1 f d3_) (n1 p d4!);have xr:Gg t.B5 "put_behind" n1! aS!:=by simp only[Gg,ua.ob,rM.1,and_self]
  refine d1t t9 xr ll f3 ?_;refine Rh ua f7 yy ht.nn.1 (λz=>eW w hn pl n1_) (by have:=vZ (W:=W) (x:=pl);have:=hA.lr;omega) (jJ w) λM2 R2 K2=>?_;have m2:∀c,rl c≠.par->rl c≠.rF pl->rl c≠.rP pl->M2 c=M c:=λc B Y h3=>(K2 c (λz=>Y nU!) (λz=>h3 nU_)).trans (n1 c B);have oz:M2 o=_:=(m2 o O_ O_ O_).trans hA.ob;have MV:M2 a2=_:=(m2 a2 au_ au_ au_).trans Y;have MX:M2 a3=_:=(m2 a3 aT_ aT_ aT_).trans h3;have MY:M2 a4=_:=(m2 a4 aU! aU! aU!).trans h4;refine sM ?_;refine bT λr1 f1 p1 M3 z1 z2 z3 _ _ R3 K3=>?_;have m3:∀c,M2 c≠none->M3 c=M2 c:=λc hc=>K3 c (Bl hc z1) (Bl hc z2) (Bl hc z3);have yz:=(m3 o (by rw[oz];simp)).trans oz;have SX:=(m3 a2 (by rw[MV];simp)).trans MV;have MZ:=(m3 a3 (by rw[MX];simp)).trans MX;have NA:=(m3 a4 (by rw[MY];simp)).trans MY;have SY:o≠a2:=az (by rw[hA.ro,hA.r2];simp);have NB:o≠a3:=az (by rw[hA.ro,hA.r3];simp);have y6:a3≠a2:=az (by rw[hA.r3,hA.r2];simp);have SZ:a4≠a2:=az (by rw[hA.r4,hA.r2];simp);have NC:a4≠a3:=az (by rw[hA.r4,hA.r3];simp);refine bL f0 ll yz oF2 SX f7 L2 ?_;refine sM ?_;refine bT λr2 f2 p2 M5 y1 y2 y3 _ _ R5 K5=>?_;have m5:∀c,c≠a2->M3 c≠none->M5 c=M3 c:=λc h0 hc=>by
   have q:Cg M3 a2 (.dct nL! (Lq k2 n e2)) c≠none:=by rw[mup_ne h0];exact hc
   rw[K5 c (Bl q y1) (Bl q y2) (Bl q y3),mup_ne h0]
  have y7:=(m5 o SY (by rw[yz];simp)).trans yz;have S':=(m5 a3 y6 (by rw[MZ];simp)).trans MZ;have ND:=(m5 a4 SZ (by rw[NA];simp)).trans NA;refine bL f0 ll y7 oF3 S' f7 L3 ?_;unfold Ei;show a5f l2! (wl cZ!) dh_ (Cg M5 a3 n3_) _;refine⟨Z_,⟨Z_,Z_,Z_⟩,λq x1=>?_⟩;have q0:o≠q:=Bl (N:=Cg M5 a3 n3_) (by rw[mup_ne NB,y7];simp) x1;have q4:a4≠q:=Bl (N:=Cg M5 a3 n3_) (by rw[mup_ne NC,ND];simp) x1;obtain⟨ae,F1,F2⟩:=b3q (e1:=Lq k1 n e1) (e2:=Lq k2 n e2) (e3:=Lq k3 n e3) (e4:=Lq k4 n e4) hA w hn ht hp hg g1 g3 g4 g5 R2 K2 z1 z2 z3 R3 K3 y1 y2 y3 R5 K5 x1;have:=hR _ ae ⟨_,_,_,_,_,_,_,_,_,_,_,_,F1⟩ F2;exact bL (kvs:=k4) (ep:=e4) f0 ll ((mup_ne q0).trans ((mup_ne NB).trans y7)) oF4 ((mup_ne q4).trans ((mup_ne NC).trans ND)) f7 L4 (gr _ _ this)
 show Ap rw! (c3x t) vM_ M KK;have hh:∀K:D->Mh->Prop,Dy t [a8_,a] M K->Bx t.B4 "has" 2 gc_ i! eD! vM_ M K:=λK ub=>⟨hm,rfl,ub⟩;unfold Ap Ba wIf wT;refine hh _ (nE hO li ?_);by_cases c:Lb W a
 .rw[BJ c];exact key a (by rw[AN c])
 .rw[AU c];exact key binn (by rw[AH c])
theorem jB(hO:au!)(w:El W)(cj:e6!)(gf:nx_)(mv:Ge s=some ks)(hB:gQ!)
  (hR:∀M',(d2_->∀rows',nY W.rows i x s rows'->Er t M' o rl {W with rows:=rows'} bk!)->(¬d2_->Er t M' o rl W bk!)->Fr M rl M' rl->R .non M'):
  Mi t [a8_,i,x,s] M R:=by
 have h':=hO;obtain⟨a1,a2,a3,a4,a5,a6,k1,k2,k3,k4,k5,k6,hA⟩:=h';obtain⟨e1,B⟩:=hA.d1;obtain⟨e2,Y⟩:=hA.d2;refine j_;show Ap n4! _ n4_ M _;simp only[Ap,Bj,Sw,wT,Bx,wl,Ac,Ak,Aa,List.getElem?_cons_zero,List.getElem?_cons_succ,Option.join_some];refine⟨hA.noOb oM5,rfl,?_⟩;refine a0y hO w cj gf λb J=>?_;cases b with
 |false=>
  have hc:¬d2_:=λz=>by have:=J.mpr z;cases this
  have:=hR M (λz=>absurd z hc) (λ_=>hO.mono a!) .refl;simpa[jO]using this
 |true=>
  have hc:=J.mp rfl;obtain⟨hi,L,hw⟩:=hc;obtain⟨p0,ii⟩:=a2m w hi;have NE:Lb W p0:=w.rp _ _ ii;obtain⟨r0,f0,q0,u1,u2,u3,u4,u5⟩:=hA.row p0 NE;obtain⟨r,f,p,g1,g2,g3,g4,g5⟩:=hA.row x L;obtain⟨yr,TB⟩:=cI w NE;obtain⟨uu,vv,c1,c2⟩:=a4q w.rnd ii;have az:∀{c d:Addr},rl c≠rl d->c≠d:=λh z=>h gW_;have lr:=hA.lr;have TC:∀R',w2 Dz ct_ ij! n4_ M R'=R' (.fn r0) M:=by
   intro R';simp[w2,wl,Bs,Mo,hA.ob,oF1,oF2,Dz,B,Y,cj,hA.pr i p0 ii,TB,u1,Ie,Aa]
  have NG:Gg t.B5 "take_out" M (.fn r0):=by simp only[Gg,u2.ob,rM.2.1,and_self]
  simp only[Bool.not_true,Bool.false_eq_true,if_false,Di,En,Bx,TC];refine⟨NG,rfl,?_⟩;refine wU u2 c1 cj (by have:=vZ (W:=W) (x:=p0);omega) (jJ w) λM1 R1 K1=>?_;rw[<-c2]at R1;have m1:∀c,rl c≠.rF p0->rl c≠.rP p0->M1 c=M c:=λc B Y=>K1 c (λz=>B (by rw[z,u4])) (λz=>Y (by rw[z,u5]));have vk:=(m1 o O_ O_).trans hA.ob;have TD:=(m1 a1 bQ_ bQ_).trans B;have TF:=(m1 a2 au_ au_).trans Y;have ua:Iq t M1 r f p (chl jJ_ x):=by
   by_cases e:p0=x
   .subst e;rw[u1]at g1;cases g1;obtain⟨z1,z2⟩:f=f0/\p=q0:=by
     have:=u2.ob;rw[g2.ob]at this;simp at this;exact this
    rw[z1,z2];exact R1
   .rw[rW λz=>e vN!];exact g2.keep (m1 r db_ db_) (m1 f (by rw[g4];simpa using Ne.symm e) d3_) (m1 p d4! (by rw[g5];simpa using Ne.symm e))
  have t9:∀R',w2 Dz ct_ F! n4_ M1 R'=R' aS! M1:=by
   intro R';simp[w2,wl,Bs,Mo,vk,oF2,Dz,TF,gf,g1,Ie,Aa]
  have vy:Gg t.B5 "put_behind" M1 aS!:=by simp only[Gg,ua.ob,rM.1,and_self]
  simp only[t9];refine⟨vy,rfl,?_⟩;have lw:(chl jJ_ x).length<=cb!:=by
   have a:=(a8c (rows:=wo W.rows i) (x:=x)).length_le;have b:=(vO!).length_le;simp at a b;omega
  refine Rh ua cj mv (gP!).nn.1 (λz=>(To.mp n1_).2 rfl) a! (λc hc=>jJ w c (Nj.mpr (To.mp (Nj.mp hc)).1)) λM2 R2 K2=>?_;have m2:∀c,rl c≠.rF x->rl c≠.rP x->M2 c=M1 c:=λc B Y=>K2 c (λz=>B nU!) (λz=>Y nU_);have oz:=(m2 o O_ O_).trans vk;have TH:=(m2 a1 bQ_ bQ_).trans TD;have L1:ns!<big:=by have:=hA.l1;unfold big;omega
  have fin:R .non (Cg M2 a1 n5!):=by
   have n3:∀c,rl c≠.par->Cg M2 a1 n5! c=M2 c:=λc hc=>mup_ne λz=>hc nT!;have aw:∀c,rl c≠.par->rl c≠.rF x->rl c≠.rP x->rl c≠.rF p0->rl c≠.rP p0->Cg M2 a1 n5! c=M c:=λc B Y h3 h4 h5=>(n3 c B).trans ((m2 c Y h3).trans (m1 c h4 h5));refine hR _ (λ_ rows' hg=>⟨a1,a2,a3,a4,a5,a6,Bk k1 i x,k2,k3,k4,k5,k6,?_⟩) (λz=>absurd ⟨hi,L,hw⟩ z) λc hc hr=>⟨aw c d3! d3! d3! d3! d3!,hr⟩;have up:∀{x:Nat},x<=hb->x<=hb+20:=λh=>by omega
   have xi:i≠root/\i≠binn:=⟨(gP!).nn.2.1,(gP!).nn.2.2⟩;refine{hA with ob:=?_,d1:=jq_,d2:=?_,d3:=?_,d4:=?_,d5:=?_,d6:=?_,p0:=⟨by rw[Hb xi.1];exact hA.p0.1,by rw[Hb xi.2];exact hA.p0.2⟩,pr:=?_,row:=?_,txt:=?_,num:=?_,l1:=Nat.le_trans dX! (by have:=hA.l1;omega),l2:=up hA.l2,l3:=up hA.l3,l4:=up hA.l4,l5:=up hA.l5,l6:=up hA.l6,lr:=?_,lt:=λy hy=>up (hA.lt y hy),live:=?_}
   .rw[aw o O_ O_ O_ O_ O_];exact hA.ob
   .rw[aw a2 au_ au_ au_ au_ au_];exact hA.d2
   .rw[aw a3 aT_ aT_ aT_ aT_ aT_];exact hA.d3
   .rw[aw a4 aU! aU! aU! aU! aU!];exact hA.d4
   .rw[aw a5 aL! aL! aL! aL! aL!];exact hA.d5
   .rw[aw a6 av! av! av! av! av!];exact hA.d6
   .intro a b hm;rcases hg.mem.mp hm with z|z
    .cases z;rw[Gu]
    .obtain⟨z1,z2⟩:=To.mp z;rw[Hb (Ne.symm z2)];exact hA.pr a b z1
   .intro y hy;show∃r f p,kget k2 y=some aS!/\Iq t _ r f p (chl rows' y)/\_;by_cases e:x=y
    .subst e;refine vd!;rw[vF_];exact R2.keep (n3 r db_) (n3 f d3_) (n3 p d4!)
    .rw[hg.chl_ne e];by_cases e':p0=y
     .subst e';refine⟨r0,f0,q0,u1,?_,u3,u4,u5⟩;exact R1.keep ((n3 r0 aj_).trans (m2 r0 aj_ aj_)) ((n3 f0 aF!).trans (m2 f0 (by rw[u4];simpa using Ne.symm e) aF!)) ((n3 q0 aF_).trans (m2 q0 aF_ (by rw[u5];simpa using Ne.symm e)))
     .obtain⟨r',f',p',v1,v2,v3,v4,v5⟩:=hA.row y hy;refine⟨r',f',p',v1,?_,v3,v4,v5⟩;rw[rW λz=>e' vN!];exact v2.keep vR! (aw f' cE_ (by rw[v4];simpa using Ne.symm e) cE_ (by rw[v4];simpa using Ne.symm e') cE_) (aw p' cF! cF! (by rw[v5];simpa using Ne.symm e) cF! (by rw[v5];simpa using Ne.symm e'))
   .intro y hy;obtain⟨r',f',p',v1,v2,v3,v4,v5⟩:=hA.txt y hy;exact⟨r',f',p',v1,v2.keep vR! (aw f' cE_ cE_ cE_ cE_ cE_) (aw p' cF! cF! cF! cF! cF!),v3,v4,v5⟩
   .intro y hy;obtain⟨q,v1,v2,v3⟩:=hA.num y hy;exact⟨q,v1,(aw q bD! bD! bD! bD! bD!).trans v2,v3⟩
   .obtain⟨u,v,e,rfl,_⟩:=hg;show(u++(i,x)::v).length<=_;have b:=(vO!).length_le;rw[e]at b;simp at b ⊢;omega
   .intro c hc;by_cases y0:c=a1
    .rw[y0,mup_same];simp
    .rw[mup_ne y0];by_cases y1:c=f
     .rw[y1];exact R2.live.2.1
     .by_cases y2:c=p
      .rw[y2];exact R2.live.2.2
      .rw[K2 c y1 y2];by_cases y3:c=f0
       .rw[y3];exact R1.live.2.1
       .by_cases y4:c=q0
        .rw[y4];exact R1.live.2.2
        .rw[K1 c y3 y4];exact hA.live c hc
  simpa[Ei,wl,Bs,Mo,Ie,Aa,oz,oF1,Ux,TH,cj,L1]using fin
end
end K10
namespace K10
open PySem L2 DL
noncomputable def Bo.nd(t:Bo):Prop:=[t.A0,t.A5,t.A6,t.A7,t.A8,t.A9,t.B0,t.B1,t.B2].Nodup
noncomputable def Wf(c:Nat):Bool:=decide (32<=c)&&decide (c<=126)&&!(c==37)
noncomputable def yT(s:Str):Bool:=decide (aw!<=1000)&&s.cps.toList.all Wf
theorem c6w(a c:Nat):pS ⟨#[a]⟩ am!=decide (a<=c):=by
 unfold pS;simp only[List.cons_lt_cons_iff,List.not_lt_nil,and_false,DK];by_cases h:c<a
 .simp[h]
 .simp[h];omega
theorem b0e:(" ":Str)=⟨#[32]⟩:=by decide+kernel
theorem b0d:("~":Str)=⟨#[126]⟩:=by decide+kernel
theorem c7q(c:Nat):Na [gE!]=some (.bl (Wf c)):=by
 push_cast[Na,qJ,c0w,b0e,b0d,c6w,Str.length,Wf]
 by_cases B:32<=c<;>by_cases Y:c<=126<;>simp[B,Y];rw[EH];simp;omega
theorem nN(ρ:Ag)(m6:ρ=a9!):∀(cs:k!),cs.all Wf=true->
  Io B! a1! ib! ρ (cs.map λc=>.str am!)=some jL_
 |[],_=>rfl
 |c::cs,h=>by
  rw[FM,BI]at h;have ih:=nN ρ m6 cs h.2;subst m6;simp only[AK,Io,ih];simp[Cr,f1,Ad,Aa,Ao,c7q,h.1]
theorem nU:∀(cs:k!),Zi vS_=some vT!
 |[]=>rfl
 |c::cs=>by simp only[AK,Zi,nU cs,GR]
theorem vP(a b:Str):Jb (.str a) (.str b)=fQ!:=by unfold Jb;rfl
theorem a7s(a b:Int):Jb (.int a) (.int b)=fQ!:=by unfold Jb;rfl
theorem a1c(s:Str):∀xs:List Str,vT_=xs.any (·==s)
 |[]=>rfl
 |x::xs=>by rw[AK,EO,EO,a1c s xs,vP]
theorem c1u(s:Str)(xs:p!):a4d false aw_ (.tup jM_)=some (.bl (xs.any (·==s))):=by
 have h:(jM_).all Uq=true:=by simp[DU,Uq]
 show(if Uq aw_&&(jM_).all Uq then some (D.bl vT_)else none)=_;rw[h,a1c];rfl
theorem gU:(Str.ofString "put"==Str.ofString "undo")=false:=by decide+kernel
theorem gV:(Str.ofString "put"==Str.ofString "redo")=false:=by decide+kernel
theorem Qx:(Str.ofString "move"==Str.ofString "put")=false:=by decide+kernel
theorem uX:(Str.ofString "move"==Str.ofString "undo")=false:=by decide+kernel
theorem uY:(Str.ofString "move"==Str.ofString "redo")=false:=by decide+kernel
theorem Qy:(Str.ofString "drop"==Str.ofString "put")=false:=by decide+kernel
theorem Pl:(Str.ofString "drop"==Str.ofString "move")=false:=by decide+kernel
theorem cD:(Str.ofString "drop"==Str.ofString "undo")=false:=by decide+kernel
theorem cE:(Str.ofString "drop"==Str.ofString "redo")=false:=by decide+kernel
theorem Tt:(Str.ofString "write"==Str.ofString "put")=false:=by decide+kernel
theorem Rm:(Str.ofString "write"==Str.ofString "move")=false:=by decide+kernel
theorem Rn:(Str.ofString "write"==Str.ofString "drop")=false:=by decide+kernel
theorem uW:(Str.ofString "write"==Str.ofString "cut")=false:=by decide+kernel
theorem uV:(Str.ofString "write"==Str.ofString "set")=false:=by decide+kernel
theorem pI:(Str.ofString "write"==Str.ofString "undo")=false:=by decide+kernel
theorem pJ:(Str.ofString "write"==Str.ofString "redo")=false:=by decide+kernel
theorem aE:(Str.ofString "cut"==Str.ofString "put")=false:=by decide+kernel
theorem Wq:(Str.ofString "cut"==Str.ofString "move")=false:=by decide+kernel
theorem Wr:(Str.ofString "cut"==Str.ofString "drop")=false:=by decide+kernel
theorem Tv:(Str.ofString "cut"==Str.ofString "write")=false:=by decide+kernel
theorem a4a:(Str.ofString "cut"==Str.ofString "set")=false:=by decide+kernel
theorem zN:(Str.ofString "cut"==Str.ofString "undo")=false:=by decide+kernel
theorem zO:(Str.ofString "cut"==Str.ofString "redo")=false:=by decide+kernel
theorem aC:(Str.ofString "set"==Str.ofString "put")=false:=by decide+kernel
theorem Wo:(Str.ofString "set"==Str.ofString "move")=false:=by decide+kernel
theorem Wp:(Str.ofString "set"==Str.ofString "drop")=false:=by decide+kernel
theorem Tu:(Str.ofString "set"==Str.ofString "write")=false:=by decide+kernel
theorem aD:(Str.ofString "set"==Str.ofString "cut")=false:=by decide+kernel
theorem zK:(Str.ofString "set"==Str.ofString "undo")=false:=by decide+kernel
theorem zL:(Str.ofString "set"==Str.ofString "redo")=false:=by decide+kernel
theorem gP:(Str.ofString "undo"==Str.ofString "put")=false:=by decide+kernel
theorem bX:(Str.ofString "undo"==Str.ofString "move")=false:=by decide+kernel
theorem bY:(Str.ofString "undo"==Str.ofString "drop")=false:=by decide+kernel
theorem Ze:(Str.ofString "undo"==Str.ofString "write")=false:=by decide+kernel
theorem gQ:(Str.ofString "undo"==Str.ofString "cut")=false:=by decide+kernel
theorem zJ:(Str.ofString "undo"==Str.ofString "set")=false:=by decide+kernel
theorem gR:(Str.ofString "redo"==Str.ofString "put")=false:=by decide+kernel
theorem cB:(Str.ofString "redo"==Str.ofString "move")=false:=by decide+kernel
theorem cC:(Str.ofString "redo"==Str.ofString "drop")=false:=by decide+kernel
theorem Zf:(Str.ofString "redo"==Str.ofString "write")=false:=by decide+kernel
theorem gS:(Str.ofString "redo"==Str.ofString "cut")=false:=by decide+kernel
theorem zM:(Str.ofString "redo"==Str.ofString "set")=false:=by decide+kernel
theorem bZ:(Str.ofString "redo"==Str.ofString "undo")=false:=by decide+kernel
theorem Nn(a b:Str):Bu (.str a) (.str b)=some (.bl fQ!):=by simp[Bu,Ct,Ot,vP]
theorem in2(k a b:Str):a4d false U! n7_=some (.bl n8!):=by have:=c1u k ai!;simpa only[AK,FF,EO,List.any_nil,Bool.or_false]using this
theorem cV(a b:Int):Bu (.int a) (.int b)=some (.bl fQ!):=by simp[Bu,Ct,Ot,a7s]
abbrev scr(ns:A_):D:=.lst jg_
theorem wC{α:Type}{xs:N_}{i:Int}(h0:0<=i)(B:i<k_):∃x,Gm xs i=some x/\x∈xs:=by refine⟨xs[i.toNat]' a!,?_,DH _⟩;unfold Gm Iw;rw[AN h0,AN B];simp
theorem c2z(ns:A_)(k:Int):∃c,cP [di_,g4_]=some (.int c):=by
 cases ns with
 |nil=>exact⟨0,by push_cast[cP,tK,scr,a8r]⟩
 |cons n r=>
  have hp:(0:Int)<g5!+1:=by omega
  obtain⟨x,e,L⟩:=wC (xs:=vW!) (i:=k%(g5!+1)) (EG _ a!) (by simpa using DF k hp);obtain⟨c,_,rfl⟩:=AX.mp L;refine⟨c,?_⟩;have e':Aq (.lst vW!) (.int (k%(g5!+1)))=some (.int c):=e;simp only[AK]at e';simp[cP,tK,scr,Eu,Cw,sSeq,Lw,Fo,Aa,a8r,f2,f1,Ad,Ao,Dd,Eg,Hr,hp,e']
theorem Rl(ns:A_){k:Int}:∃m,Ee [di_,g4_]=some bR!/\0<=m/\m<4294967231:=by obtain⟨c,hc⟩:=c2z ns k;refine⟨_,by push_cast[Ee,b3k,hc,yZ];rfl,EG _ c!,DF _ c!⟩
theorem Xs{n:Int}(h:xs≠[]):∃x,Hu [.lst xs,aK_]=some x/\x∈xs:=by
 have hl:0<k_:=List.length_pos_iff.mpr h;have hp:(0:Int)<iZ_:=by omega
 obtain⟨x,e,L⟩:=wC (xs:=xs) (i:=n%iZ_) (EG _ a!) (DF n hp);refine⟨x,?_,L⟩;have e':Aq L! (.int (n%iZ_))=some x:=e;simp[Hu,a6f,Eu,Cw,Aa,f2,f1,Ad,Ao,Dd,Eg,Hr,hp,e',hl]
theorem bW{bnd:af_}{q:aM_}(P:Nat->Ag->Prop):∀(ds:b!) (i:Nat) (ρ:Ag),P i ρ->
  (∀(j:Nat) (d:D) (ρ:Ag),ds[j]?=some d->P (i+j) ρ->∃ah bg,bnd d ρ=some ah/\q ah=some (.nx bg)/\P (i+j+1) bg)->
  ∃ρ',mE bnd q ds ρ=some cL_/\P (i+f_) ρ'
 |[],i,ρ,h,_=>⟨ρ,rfl,h⟩
 |d::ds,i,ρ,h,hs=>by
  obtain⟨ah,bg,e1,e2,Y⟩:=hs 0 d ρ rfl h;obtain⟨ρ',e3,h3⟩:=bW P ds ba! bg Y λj d ρ hd hp=>by
   have:=hs (j+1) d ρ (by simpa using hd) (by rw[show i+(j+1)=i+1+j by omega];exact hp);rw[show i+(j+1)+1=i+1+j+1 by omega]at this;exact this
  refine⟨ρ',?_,by rw[AR,show i+(ds.length+1)=i+1+ds.length by omega];exact h3⟩;simp[mE,e1,e2,e3]
theorem Xj{bnd:af_}{ft:aa!}{fe:e!}{ρ:Ag}(R:D->Prop):∀(ds:b!),(∀d∈ds,∃ah b,bnd d ρ=some ah/\ft ah=some b/\(b=true->∃y,fe ah=some y/\R y))->
  ∃ys,Io bnd ft fe ρ ds=some ys/\Z!<=f_/\∀y∈ys,R y
 |[],_=>⟨[],rfl,BB _,λy hy=>by cases hy⟩
 |d::ds,h=>by
  obtain⟨ah,b,e1,e2,hy⟩:=h d AM;obtain⟨ys,e3,hl,hr⟩:=Xj R ds λx L=>h x ch!
  cases b with
  |false=>exact⟨ys,by simp[Io,e1,e2,e3],ed_,hr⟩
  |true=>
   obtain⟨y,e4,r4⟩:=hy rfl;refine⟨y::ys,by simp[Io,e1,e2,e3,e4],ed_,k7_⟩;rcases AD.mp hz with rfl|hz
   .exact r4
   .exact hr z hz
theorem hV{bnd:af_}{fe:e!}{ρ:Ag}:∀{ds ys:b!},Io bnd a1! fe ρ ds=some ys->Z!=f_
 |[],ys,e=>by cases e;rfl
 |d::ds,ys,e=>by
  unfold Io at e;obtain⟨ah,e1,e⟩:=AB.mp e;simp only[EZ,CF]at e;obtain⟨y,e3,e⟩:=AB.mp e;obtain⟨zs,e4,rfl⟩:=AL.mp e;simp[hV e4]
noncomputable def NameG(x:D):Prop:=∃a b,x=.tup uC!/\0<=a/\a<16/\1<=b/\b<=2000
noncomputable def Fv(x:D):Prop:=x=.str "root"\/x=.str "bin"\/NameG x
noncomputable def Yp(x:D):Prop:=x=.non\/NameG x
noncomputable def b8j(x:D):Prop:=∃a b c,x=.tup uC_/\0<=a/\a<16/\1<=b/\b<=2000/\0<=c/\c<=15
noncomputable def Ur(x:D):Prop:=x=.non\/b8j x
inductive DG:D->Prop
 |put {a b:D}:Fv a->Yp b->DG ee!
 |move {a b c:D}:Fv a->Fv b->Yp c->DG g6!
 |drop {a:D}:Fv a->DG g6_
 |write {a b:D} {s:Str}:Fv a->Ur b->yT s=true->1<=aw!->aw!<=16->DG ff!
 |cut {a:D} {x y z m:Int}:Fv a->b8j d5_->1<=m->z+m<=16->DG ee_
 |set {a:D} {p n:Int}:Fv a->0<=p->p<=3->n.natAbs<10 ^ 60->DG (.tup [jP!,a,.int p,aK_])
 |undo {a:D}:NameG a->DG (.tup [ob!,a])
 |redo {a:D}:NameG a->DG (.tup [.str "redo",a])
noncomputable def a4y(o:D):Prop:=∃h n tm d,o=.tup [aV!,aK_,.int tm,d]/\0<=h/\h<16/\1<=n/\n<=2000/\DG d
theorem a0o(h:DG d):∃k r,d=.tup dj!/\(k="write"->∃a b s,r=[a,b,dd_]/\aw!<=16):=by
 cases h with
 |write _ _ _ _ h5=>exact⟨_,_,rfl,λ_=>⟨_,_,_,rfl,h5⟩⟩
 |_=>exact⟨_,_,rfl,λz=>absurd z r!⟩
theorem b6i{ops:b!}(h:jQ!)(hl:jR_):∃its,Xe [.lst ops]=some oc!/\3<=e0_/\e0_<=200/\∀x∈its,Fv x:=by
 obtain⟨ys,e,l,hr⟩:=Xj (ρ:=a9!) (bnd:=Cr 0) (ft:=fT mB!) (fe:=Cf gt!)
  (v3_) ops (by
   intro o ho;obtain⟨h',n,tm,d,rfl,b1,b2,b3,b4,hd⟩:=h o ho;obtain⟨k,r,rfl,_⟩:=a0o hd;refine⟨_,_,rfl,by push_cast[Nn];rfl,λ_=>⟨_,by push_cast,v4!⟩⟩)
 have hc:He 1 [] iq_ B! (fT mB!) (Cf gt!) [ax!]=some a6!:=by
  show v4_;rw[dj_,e];rfl
 have a1:Bd (.lst [.str "root"]) a6!=some v5!:=by
  show(if 1+Z!<=big then some (D.lst ([.str "root"]++ys))else none)=_;rw[dj_];rfl
 have a2:Bd v5! (.lst jS_)=some (.lst (.str "root"::(ys++jS_))):=by
  show(if Z!+1+2<=big then some (D.lst (.str "root"::ys++jS_))else none)=_;rw[dj_];rfl
 refine⟨.str "root"::(ys++jS_),by simp[Xe,yC,Eu,Cw,f2,fC,hc,a1,a2],I!,ed_,a7!⟩;simp at L;rcases L with rfl|L|rfl|rfl
 .exact cV!
 .exact .inr (.inr (hr x L))
 .exact .inr aH!
 .exact .inr (.inr ⟨9,9,rfl,Z_,Z_,Z_,Z_⟩)
theorem b2j{ops:b!}(h:jQ!)(hl:jR_):∃ss,Xc [.lst ops]=some (.lst ss)/\ss≠[]/\∀x∈ss,Ur x:=by
 let P:Nat->Ag->Prop:=λi ρ=>∃cv x y,ρ=[ax!,oc_,x,y]/\cv≠[]/\od!<=2+16*i/\∀z∈cv,Ur z
 obtain⟨ρ',e,cv,x,y,rfl,f0,_,hf⟩:=bW (bnd:=Dr 2) (q:=Lw sH! sI! Fo)
  P ops 0 [ax!,some (.lst [.non,.tup [ff_,ff_,.int 3]]),none,none] ⟨_,_,_,rfl,by simp,by simp,by
   intro z hz;simp at hz;rcases hz with rfl|rfl
   .exact cV!
   .exact .inr ⟨9,9,3,rfl,Z_,Z_,Z_,Z_,Z_,Z_⟩⟩ (by
  rintro j d ρ hd ⟨cv,x,y,rfl,f0,fl,hf⟩;have hj:j<jQ_:=(AZ.mp hd).1;obtain⟨h',n,tm,d',rfl,b1,b2,b3,b4,TJ⟩:=h d (GO hd);obtain⟨k,r,rfl,hw⟩:=a0o TJ;by_cases hk:k="write"
  .subst hk;obtain⟨a,b,s,rfl,TK⟩:=hw rfl;have tf:aw!<=big:=by unfold big;omega
   let P2:Nat->Ag->Prop:=λi ρ=>∃cv y,ρ=v8_/\cv≠[]/\od!<=2+16*(0+j)+i/\∀z∈cv,Ur z
   obtain⟨bg,e2,NH,y2,rfl,TL,TM,xq⟩:=bW (bnd:=Dr 3) (q:=iF 1 sH_) P2 (Hi aw!) 0
    (v8_) ⟨cv,y,rfl,f0,fl,hf⟩ (by
     rintro i d ρ hd ⟨cv,y,rfl,f0,fl,hf⟩;unfold Hi at hd;rw[BS]at hd;obtain⟨i',cz,rfl⟩:=AL.mp hd;obtain⟨am,he⟩:=AZ.mp cz;rw[GZ]at he;subst he;rw[EV]at am;have J:od!<big:=by unfold big;omega
     refine⟨_,_,rfl,by push_cast[iF,J];rfl,cv++[.tup [.int h',aK_,fg!]],_,rfl,I!,ed_,k7_⟩;rcases AQ.mp hz with hz|hz
     .exact hf z hz
     .simp at hz;subst hz;exact .inr ⟨_,_,_,rfl,b1,b2,b3,b4,t_,t_⟩)
   have hr:-1000<=jU_/\jU_<=100000:=by omega
   refine⟨_,[ax!,some (.lst NH),v7_,y2],rfl,by push_cast[Nn,oK,Km,tf,hr,e2],NH,_,_,rfl,TL,?_,xq⟩;simp[Hi]at TM;omega
  .refine⟨_,[ax!,oc_,some (.tup [.int h',aK_,.int tm,.tup dj!]),y],rfl,by push_cast[Nn,hk],cv,_,_,rfl,f0,t_,hf⟩)
 refine⟨cv,?_,f0,hf⟩;simp[Xc,yA,Vn,Eu,sSeq,Ad,Ao,fC,oK,Hk,Aa,Cw,e]
abbrev letters:Str:=" abcXYZ.,;!019~[]\\\"'|{}<>@#$&*()-+/=_^:?`"
theorem gM:of!=41:=by decide+kernel
theorem a3y:letters.cps.toList.all Wf=true:=by decide+kernel
theorem b0w:(dk!).cps=#[]:=by decide+kernel
theorem rL:(dk!).length=0:=by decide+kernel
noncomputable def eO(c:Nat):D:=.str am!
theorem wV:∀(xs:b!),(∀x∈xs,∃c,x=eO c/\Wf c=true)->∃cs:List Nat,xs=cs.map eO/\cs.all Wf=true
 |[],_=>wa_
 |x::xs,h=>by
  obtain⟨c,rfl,hc⟩:=h x AM;obtain⟨cs,rfl,oq⟩:=wV xs λy hy=>h y d2!
  exact⟨c::cs,rfl,by simp only[FM,hc,oq,EY]⟩
theorem dQ:∀(cs:k!),jS jV_=some g8_
 |[]=>rfl
 |c::cs=>by simp only[AK,eO,jS];rw[show List.map eO cs=List.map eO cs from rfl,dQ cs];rfl
theorem a0c:∀(cs:k!) (acc:Array Nat),(g8_).foldl (λacc p=>acc++(dk!).cps++p.cps) acc=acc++cs.toArray
 |[],acc=>by simp
 |c::cs,acc=>by
  rw[AK,List.foldl_cons,a0c cs,b0w];simp
theorem b6f(cs:k!):Txt.join dk! g8_=of_:=by
 unfold Txt.join Builtin.Str.glued;cases cs with
 |nil=>rfl
 |cons c cs=>
  simp only[AK,List.drop_succ_cons,List.drop_zero,List.headD_cons];rw[a0c];simp
theorem sI:∀(cs:k!),((g8_).map (·.length)).sum=cC_
 |[]=>rfl
 |c::cs=>by
  have ih:=sI cs;simp only[AK,List.sum_cons,AR];rw[ih];show 1+cC_=_;omega
theorem b9f{n most:Int}(B:1<=most)(W4:most<=16):∃s,cN [aK_,.int most]=some aw_/\yT s=true/\1<=aw!/\aw!<=16:=by
 have NG:0<=n%most:=EG _ a!;have vy:n%most<most:=DF _ a!;obtain⟨N,hN⟩:∃N:Nat,(N:Int)=1+n%most:=⟨(1+n%most).toNat,t_⟩;have TN:1<=N:=by omega
 have W5:N<=16:=by omega
 obtain⟨ys,e,l,hr⟩:=Xj (ρ:=wd!) (bnd:=Cr 0) (ft:=og_) (fe:=f2 Aq y! sI_)
  (λy=>∃c,y=eO c/\Wf c=true) fh! (by
   intro d hd;unfold Hi at hd;obtain⟨i,hi,rfl⟩:=AX.mp hd;have cz:=FS.mp hi;have z1:(0:Int)<1+3*(i:Int):=by omega
   have z2:1+3*(i:Int)<1073741824:=by omega
   have al:of!<=big:=by rw[gM];decide
   have hsz:((wd_:Nat):Int)=41:=by
    have:wd_=41:=by rw[<-gM];simp[Str.length]
    omega
   obtain⟨c,ec,hc⟩:=wC (xs:=letters.cps.toList) (i:=n / (1+3*(i:Int))%41) (EG _ c!) (by rw[hsz];exact DF _ c!);have mf:Aq og! (.int (n / (1+3*(i:Int))%41))=some (eO c):=by
    show(if of!<=big then(Gm letters.cps.toList _).map _ else none)=_;rw[AN al,ec];rfl
   refine⟨_,true,rfl,rfl,λ_=>⟨eO c,?_,c,rfl,DU.mp a3y c hc⟩⟩;simp[Cr,f2,Aa,fC,Bd,Iu,Hr,yZ,Fa,Eg,z1,z2,mf])
 have l2:=hV e;obtain⟨cs,rfl,oq⟩:=wV ys hr;have bz:cC_=N:=by simpa[Hi]using l2
 have TQ:-1000<=(N:Int)/\(N:Int)<=100000:=by omega
 have hc:He 1 [0,2] (Km mC_) B! a1! sJ! wf!=some (.lst jV_):=by
  have hi:Km mC_ wf!=some fh!:=by
   simp[Km,f2,fC,Aa,Eg,Hr,show 0<most by omega,Bd,<-hN,TQ]
  unfold He;rw[hi];show(if(fh!).length<=big then Option.map D.lst (Io _ _ _ wd! fh!)else none)=_;rw[AN (by simp[Hi,big];omega),e];rfl
 have hj:Wv iH! (.lst jV_)=some (.str of_):=by
  unfold Wv;simp only[dQ,EZ,sI,AW,rL,Nat.mul_zero,Nat.add_zero,b6f];rw[dj_]
 refine⟨of_,?_,?_,?_,?_⟩
 .simp[cN,a6d,Eu,sSeq,Fe,fC,Cw,b6w,hc,hj]
 .simp only[yT,Str.length,AJ,oq,Bool.and_true,BM];omega
 .simp only[Str.length,AJ];omega
 .simp only[Str.length,AJ];omega
noncomputable def dq0:Ag->Option Fl:=sK_
noncomputable def dq1:Ag->Option Fl:=sL!
noncomputable def dq2:Ag->Option Fl:=sL_
noncomputable def dq3:Ag->Option Fl:=sM_
noncomputable def dq4:Ag->Option Fl:=sN!
noncomputable def dq5:Ag->Option Fl:=sO!
noncomputable def dq6:Ag->Option Fl:=sP_
noncomputable def dq7:Ag->Option Fl:=sR!
noncomputable def dq8:Ag->Option Fl:=sS_
noncomputable def dq9:Ag->Option Fl:=sT!
noncomputable def d2n:Ag->Option Fl:=sT_
noncomputable def d2m:Ag->Option Fl:=sU_
noncomputable def c7s:Ag->Option Fl:=sX_
noncomputable def c2i:Ag->Option Fl:=sY_
noncomputable def dq14:Ag->Option Fl:=sZ_
noncomputable def dq15:Ag->Option Fl:=s0!
noncomputable def dqB:Ag->Option Fl:=(sSeq dq7 (sSeq dq8 (sSeq dq9 (sSeq d2n wg!))))
theorem a9i:iW=(sSeq dq0 (sSeq dq1 (sSeq dq2 (sSeq dq3 (sSeq dq4 (sSeq dq5 (sSeq dq6 dqB))))))):=rfl
theorem Cs{q1 q2:aM_}{ρ ρ':Ag}(h:q1 ρ=some cL_):sSeq q1 q2 ρ=q2 ρ':=by simp[sSeq,h]
theorem Zo{q1 q2:aM_}{ρ:Ag}(h:q1 ρ=some bm_):sSeq q1 q2 ρ=some bm_:=by simp[sSeq,h]
theorem Pv{f:e!}{ρ:Ag}{i:Nat}(h:cg!):Fe i f ρ=some pz_:=by simp[Fe,h]
abbrev kinds:List D:=[jO!,jO!,jO!,oa_,oa_,jO_,jO_,.str "cut",jP!,ob!,.str "redo",.str "drop"]
noncomputable def KindOk(k:Str):Prop:=k="put"\/k="move"\/k="write"\/k="cut"\/k="set"\/k="undo"\/k="redo"\/k="drop"
theorem a0v{α:Type}{xs:N_}{lo hi:a5_}{x:α}(h:x∈Ha xs lo hi):x∈xs:=List.mem_of_mem_drop (List.mem_of_mem_take h)
noncomputable def lL:D->D
 |.str _=>.non
 |d=>d
theorem zS(h:Fv d\/d=.non):(La "str" d=some true/\lL d=.non)\/(La "str" d=some false/\lL d=d/\Yp d):=by
 rcases h with(rfl|rfl|⟨a,b,rfl,h⟩)|rfl
 .exact .inl bK_
 .exact .inl bK_
 .exact .inr ⟨rfl,rfl,.inr ⟨a,b,rfl,h⟩⟩
 .exact .inr ⟨rfl,rfl,cV!⟩
theorem c7z(ns:A_){base most:Int}{ops:b!}(h:jQ!)(hl:jR_):∃m0 its item iu k,0<=m0/\its≠[]/\(∀x∈its,Fv x)/\Fv item/\Yp iu/\KindOk k/\
  iW wi!=dqB oi_:=by
 obtain⟨m0,e0,p0,_⟩:=Rl ns (k:=base);obtain⟨m1,e1,_,_⟩:=Rl ns (k:=base+1);obtain⟨m2,e2,_,_⟩:=Rl ns (k:=base+2);obtain⟨its,ei,i3,W6,nj⟩:=b6i h hl;have vz:its≠[]:=by intro z;subst z;simp at i3
 have rl:wj!≠[]:=by
  intro z;have z2:=congrArg List.length z;simp[Ha,HT.sIx]at z2;omega
 have bz:(wj_).length+(wk!).length<=big:=by
  simp[Ha,HT.sIx,big];omega
 obtain⟨item,ep,mp⟩:=Xs (n:=m1) rl;have nu:Fv item:=by
  rcases AQ.mp mp with z|z
  .exact nj _ (a0v z)
  .exact nj _ (a0v z)
 have a1:Bd (.lst wj_) (.lst wk!)=some (.lst wj!):=by
  show ha!;rw[AN bz]
 have a2:Bd oc! (.lst iI_)=some (.lst (its++iI_)):=by
  show(if e0_+2<=big then _ else none)=_;rw[dj_]
 obtain⟨oth,eo,mo⟩:=Xs (n:=m2) (xs:=its++iI_) d_;have uc:Fv oth\/oth=.non:=by
  rcases AQ.mp mo with z|z
  .exact .inl (nj _ z)
  .simp at z;exact .inr z
 have gi:Yp (lL oth):=by
  rcases zS uc with⟨_,z⟩|⟨_,z,y⟩
  .rw[z];exact .inl rfl
  .rw[z];exact y
 obtain⟨kd,ek,mk⟩:=wC (xs:=kinds) (i:=m0%12) (EG _ c!) (by show _<(12:Int);exact DF _ c!);obtain⟨k,rfl,hk⟩:∃k,kd=.str k/\KindOk k:=by
  simp[kinds]at mk;unfold KindOk;rcases mk with rfl|rfl|rfl|rfl|rfl|rfl|rfl|rfl<;>exact⟨_,rfl,I!⟩
 have TR:Aq (.lst kinds) (.int (m0%12))=some U!:=ek;refine⟨m0,its,item,lL oth,k,p0,vz,nj,nu,gi,hk,?_⟩;rw[a9i];rw[Cs (ρ':=[U_,an_,ax!,bn_,bT_,none,none,none,none,none,none,none]) (Pv (by simp[f1,Ad,Aa,Ao,e0]))];rw[Cs (ρ':=[U_,an_,ax!,bn_,bT_,ch_,none,none,none,none,none,none]) (Pv (by simp[f1,Ad,Aa,Ao,ei]))];rw[Cs (ρ':=[U_,an_,ax!,bn_,bT_,ch_,cG!,none,none,none,none,none]) (Pv (by
  have b1:Bd kt! aZ_=some (.int (base+1)):=rfl;simp[f1,Ad,Aa,Ao,f2,Ji,Cy,Ca,Cb,fC,a1,b1,e1,ep]))]
 rw[Cs (ρ':=[U_,an_,ax!,bn_,bT_,ch_,cG!,some oth,none,none,none,none]) (Pv (by
  have b1:Bd kt! bv!=some (.int (base+2)):=rfl;simp[f1,Ad,Aa,Ao,f2,fC,a2,b1,e2,eo]))]
 rw[Cs (ρ':=[U_,an_,ax!,bn_,bT_,ch_,cG!,ol!,none,none,none,none]) (by
  rcases zS uc with⟨z1,z2⟩|⟨z1,z2,_⟩<;>simp[dq4,Lw,fT,Ja,Aa,z1,z2,Fo,Fe,fC])]
 rw[Cs (ρ':=[U_,an_,ax!,bn_,bT_,ch_,cG!,ol!,fh_,none,none,none]) (Pv gL_)];rw[Cs (ρ':=[U_,an_,ax!,bn_,bT_,ch_,cG!,ol!,fh_,some U!,none,none]) (Pv (by simp[f2,Aa,fC,Eg,Hr,TR]))]
section
variable{ρ:Ag}
theorem b0r{c:aa!}{a b:aM_}(h:c ρ=some true):Lw c a b ρ=a ρ:=by unfold Lw;rw[h];rfl
theorem Oz{c:aa!}{a:aM_}(h:c ρ=some false):Lw c a Fo ρ=some aG!:=by unfold Lw;rw[h];rfl
theorem cU{i:Nat}{b:Bool}(h:Aa i ρ=some U!)(e:(k==s)=b):fT (f2 Bu (Aa i) (fC aw_)) ρ=some b:=by unfold fT f2 fC;rw[h];show(Bu U! aw_).bind _=_;rw[Nn,e];rfl
theorem Gp{f:e!}{fs:an!}(h:cg!)(g:hb_):Ad f fs ρ=some d7!:=by unfold Ad;rw[h,g];rfl
theorem Zt{fs:an!}{ds:b!}(h:hb_)(hl:wm_):Cw (Cf fs) ρ=some (.rt dc_):=by unfold Cw Cf;rw[h];show Option.map _ wn!=_;rw[wn_];rfl
theorem nG{g:X!}{fs:an!}(h:hb_)(e:g ds=some d):f1 g fs ρ=some d:=by unfold f1;rw[h];exact e
theorem Mt{g:aV_}{f1 f3:e!}(h:f1 ρ=some x)(k:f3 ρ=some y)(e:g x y=some d):f2 g f1 f3 ρ=some d:=by unfold f2;rw[h,k];exact e
theorem yX{ns:A_}{base j m:Int}(h:Aa 0 ρ=some (scr ns))(g:Aa 1 ρ=some kt!)(e:Ee [di_,.int (base+j)]=some bR!):f1 Ee (Ad i_ (Ad (f2 Bd w! (fC dc!)) Ao)) ρ=some bR!:=
 nG (Gp h (Gp (Mt g rfl rfl) rfl)) e
theorem b4d{m:Int}{f h:e!}(a:f ρ=some L!)(b:h ρ=some bR!)(e:Hu [.lst xs,d6_]=some p):f1 Hu (Ad f (Ad h Ao)) ρ=some p:=
 nG (Gp a (Gp b rfl)) e
end
theorem a3q{i j:Int}(h:0<j):Eg bv_ dc!=some (.int (i%j)):=by show(if decide (0<j)=true then _ else _)=_;rw[AN (BJ h)]
theorem c2n(ns:A_){base most:Int}{ops:b!}(h:jQ!)(hl:jR_)(vy:1<=most)(TU:most<=16):∃d,Tx wq!=some d/\DG d:=by
 obtain⟨m0,its,item,iu,k,p0,vz,nj,nu,uc,hk,hA⟩:=c7z ns (base:=base) (most:=most) h hl;have fin:∀d,dqB oi_=some bm_->Tx wq!=some d:=λd e=>by
  unfold Tx Eu;rw[gM!];show(match iW wi! with|some (.rt d)=>some d|some (.nx _)=>some .non|none=>none)=_;rw[hA,e]
 clear hA;obtain⟨m1,e1,_,_⟩:=Rl ns (k:=base+1);obtain⟨m3,e3,_,_⟩:=Rl ns (k:=base+3);obtain⟨m4,e4,_,_⟩:=Rl ns (k:=base+4);obtain⟨m5,e5,_,_⟩:=Rl ns (k:=base+5);obtain⟨p1,TV,TW⟩:=Xs (n:=m1) vz;obtain⟨p3,TX,TY⟩:=Xs (n:=m3) vz;obtain⟨ss,es,y8,TZ⟩:=b2j h hl;obtain⟨sg,eg,mg⟩:=Xs (n:=m4) y8;have NI:=TZ _ mg;obtain⟨tx,et,T',UA,v0⟩:=b9f (n:=m5) vy TU;have ud:∀{k:Str},d2n oi_=some (.nx om!):=
  Pv (nG (Gp (nG om_ es) (Gp (yX rfl rfl e4) rfl)) eg)
 have NJ:∀{k:Str},ws_=true->c2i om!=some (.rt wt!):=λ{k} e=>
  (b0r (by unfold fT;rw[wu!,e];rfl)).trans (Zt rfl rfl)
 have NK:DG wt!:=.set nu a! a! a!;obtain⟨nm,nn,UB⟩:∃nm,NameG nm/\∀{k:Str},("put"==k)=false->sSeq dq14 dq15 [some (scr ns),some (.int base),some (.lst ops),some (.int most),some (.int m0),some (.lst its),some item,some iu,some (.lst kinds),some (.str k),some sg,none]=some (.rt (.tup [.str k,nm])):=by
  obtain⟨ys,e,l,hr⟩:=Xj (ρ:=a9!) (bnd:=Cr 0) (ft:=og_) (fe:=Cf gt!)
   (v3_) ops (by
    intro o ho;obtain⟨h',n,tm,d,rfl,b1,b2,b3,b4,_⟩:=h o ho;exact⟨_,true,rfl,rfl,λ_=>⟨_,rfl,v4!⟩⟩)
  have a1:Bd a6! (.lst on!)=some (.lst (ys++on!)):=by
   show(if Z!+1<=big then _ else none)=_;rw[dj_]
  obtain⟨nm,en,mn⟩:=Xs (n:=m1) (xs:=ys++on!) d_;refine⟨nm,?_,λ{k} _=>(Cs (Pv (Mt ?_ rfl a1))).trans (Zt (Gp rfl (Gp (b4d rfl wv_ en) rfl)) rfl)⟩
  .rcases AQ.mp mn with z|z
   .exact hr _ z
   .simp at z;subst z;exact⟨_,_,rfl,Z_,Z_,t_,t_⟩
  .show v4_;rw[dj_,e];rfl
 have v7:∀{k:Str},("put"==k)=false->(k=="write")=false->(k=="cut")=false->ws_=false->(wg!) om!=some (.rt (.tup [.str k,nm])):=λ{k} e0 w c s=>
  (Cs (Oz (cU rfl w))).trans ((Cs (Oz (by unfold Fx;rw[cU rfl c];rfl))).trans ((Cs (Oz (by unfold fT;rw[wu!,s];rfl))).trans (UB e0)))
 unfold KindOk at hk;rcases hk with rfl|rfl|rfl|rfl|rfl|rfl|rfl|rfl
 .exact⟨_,fin _ (Zo ((j3!).trans (Zt (Gp rfl (Gp (b4d rfl wv_ TV) rfl)) rfl))),.put (nj _ TW) uc⟩
 .exact⟨_,fin _ ((Cs (Oz (cU rfl Qx))).trans (Zo ((j3!).trans (Zt (Gp rfl (Gp rfl (Gp (b4d rfl (yX rfl rfl e3) TX) rfl))) rfl)))),.move nu (nj _ TY) uc⟩
 all_goals first|(refine⟨_,fin _ ((Cs (Oz (cU rfl Qy))).trans ((Cs (Oz (cU rfl Pl))).trans (Zo ((j3!).trans (Zt rfl rfl))))),.drop nu⟩;done)|skip
 .exact⟨_,fin _ ((Cs (Oz (cU rfl Tt))).trans ((Cs (Oz (cU rfl Rm))).trans ((Cs (Oz (cU rfl Rn))).trans ((hd_).trans
   (Zo ((j3!).trans (Zt (Gp rfl (Gp rfl (Gp rfl (Gp (nG (Gp (yX rfl rfl e5) rfl) et) rfl)))) rfl))))))),.write nu NI T' UA v0⟩
 .have go:dqB [U_,an_,ax!,bn_,bT_,ch_,cG!,jW_,fh_,some dG_,none,none]=sSeq c7s wf_ [U_,an_,ax!,bn_,bT_,ch_,cG!,jW_,fh_,some dG_,some sg,none]:=(Cs (Oz (cU rfl aE))).trans ((Cs (Oz (cU rfl Wq))).trans ((Cs (Oz (cU rfl Wr))).trans ((hd_).trans (Cs (Oz (cU rfl Tv))))));rcases NI with rfl|⟨a,b,c,rfl,B,Y,h3,h4,c0,UC⟩
  .exact⟨_,fin _ (go.trans ((Cs (Oz wE!)).trans (Zo (NJ rfl)))),NK⟩
  .have hc:0<16 - c:=by omega
   have q1:0<=m0 / 12%(16 - c):=EG _ a!;have q2:m0 / 12%(16 - c)<16 - c:=DF _ hc;exact⟨_,fin _ (go.trans (Zo ((b0r wE!).trans (Zt (Gp rfl (Gp rfl (Gp rfl (Gp (Mt rfl (Mt rfl rfl (a3q hc)) rfl) rfl)))) rfl)))),.cut nu ⟨a,b,c,rfl,B,Y,h3,h4,c0,UC⟩ a! a!⟩
 .exact⟨_,fin _ ((Cs (Oz (cU rfl aC))).trans ((Cs (Oz (cU rfl Wo))).trans ((Cs (Oz (cU rfl Wp))).trans ((hd_).trans ((Cs (Oz (cU rfl Tu))).trans ((Cs (Oz (by unfold Fx;rw[cU rfl aD];rfl))).trans (Zo (NJ r!)))))))),NK⟩
 .exact⟨_,fin _ ((Cs (Oz (cU rfl gP))).trans ((Cs (Oz (cU rfl bX))).trans ((Cs (Oz (cU rfl bY))).trans ((hd_).trans (v7 gU Ze gQ r!))))),.undo nn⟩
 .exact⟨_,fin _ ((Cs (Oz (cU rfl gR))).trans ((Cs (Oz (cU rfl cB))).trans ((Cs (Oz (cU rfl cC))).trans ((hd_).trans (v7 gV Zf gS r!))))),.redo nn⟩
theorem Kz(h:Fv d):Iv d=true:=by rcases h with rfl|rfl|⟨a,b,rfl,_⟩<;>simp[Iv,Kk]
theorem qD(h:Yp d):Iv d=true:=by rcases h with rfl|⟨a,b,rfl,_⟩<;>simp[Iv,Kk]
theorem lT(h:NameG d):Iv d=true:=by obtain⟨a,b,rfl,_⟩:=h;simp[Iv,Kk]
theorem a2a(h:Ur d):Iv d=true:=by rcases h with rfl|⟨a,b,c,rfl,_⟩<;>simp[Iv,Kk]
theorem a4m(h:DG d):Iv d=true:=by
 cases h with
 |put B Y=>simp[Iv,Kk,Kz B,qD Y]
 |move B Y h3=>simp[Iv,Kk,Kz B,Kz Y,qD h3]
 |drop B=>simp[Iv,Kk,Kz B]
 |write B Y=>simp[Iv,Kk,Kz B,a2a Y]
 |cut B=>simp[Iv,Kk,Kz B]
 |set B=>simp[Iv,Kk,Kz B]
 |undo B=>simp[Iv,Kk,lT B]
 |redo B=>simp[Iv,Kk,lT B]
abbrev a5g:Ag->Option Fl:=(sSeq s2_
 (sSeq s3!
 (sSeq s3_
 (sSeq s4!
 (sSeq s4_
 s6!)))))
end K10
namespace K10
open PySem L2 DL
open Classical
inductive wI(W:OW)(n:D):D->OW->Prop
 |put {a b:D} {rows':h_}:Fv a->Yp b->nY W.rows n dg_ b rows'->wI W n ee! a8!
 |mvY {a b c:D} {rows':h_}:Fv a->Fv b->Yp c->wP_->nY W.rows a b c rows'->wI W n g6! {W with rows:=rows'}
 |mvN {a b c:D}:Fv a->Fv b->Yp c->¬wP_->wI W n g6! W
 |drY {a:D} {rows':h_}:Fv a->wQ!->nY W.rows a binn .non rows'->wI W n g6_ {W with rows:=rows'}
 |drN {a:D}:Fv a->¬wQ!->wI W n g6_ W
 |wrt {a b:D} {s:Str} {h m:Int}:Fv a->Ur b->aw!<=16->n=.tup ci_->wI W n ff! (if a∈W.its then setT W a wR! else W)
 |cut {a:D} {x y z m:Int}:Fv a->0<=z->1<=m->z+m<=16->wI W n (.tup [.str "cut",a,.tup [.int x,.int y,.int z],.int m]) (if a∈W.its then setT W a (cutT ((List.range m.toNat).map λk=>.tup gQ_) ao_)else W)
 |set {a:D} {p v:Int}:Fv a->0<=p->p<=3->wI W n j6_ (if a∈W.its then xE W a j8! else W)
theorem Ey(h:Fv x):∃k,Ge x=some k:=by
 rcases h with rfl|rfl|⟨a,b,rfl,_⟩
 .exact K_
 .exact K_
 .exact K_
theorem kM(h:Yp x):∃k,Ge x=some k:=by
 rcases h with rfl|⟨a,b,rfl,_⟩
 .exact K_
 .exact K_
theorem a8u(h:Ur x):∃k,Ge x=some k:=by
 rcases h with rfl|⟨a,b,c,rfl,_⟩
 .exact K_
 .exact K_
structure WOk(W:OW)(pre:b!):Prop where
 inv:El W
 its:∀x∈W.its,x∈pre
 sgs:∀x∈W.its,∀q∈W.txt x,∃h n k,q.1=.tup wR_/\D.tup T_∈pre
 chr:∀x∈W.its,∀q∈W.txt x,∃c:Nat,q.2.1=.str am!
section
variable{t:Bo}{M:Mh}{o:Addr}{rl:Addr->fU}{W W':OW}{hb:Nat}{R:D->Mh->Prop}{pre:List D}
theorem bD{h n:Int}{s:Str}{q:e2!}(hq:q∈s.cps.toList.zipIdx.map d7_):∃c k:Nat,q=(.tup os_,.str am!,true):=by obtain⟨⟨c,k⟩,_,rfl⟩:=AX.mp hq;exact⟨c,k,rfl⟩
theorem a5t(h n:Int):∀(cs:k!) (k0:Nat),(((wT!).map a_)).Nodup/\∀k:Nat,k<k0->D.tup os_∉(wT!).map a_
 |[],k0=>by simp
 |c::cs,k0=>by
  obtain⟨B,Y⟩:=a5t h n cs (k0+1);rw[FV];simp only[AK];refine⟨AV.mpr ⟨Y k0 a!,B⟩,λk hk z=>?_⟩;rcases AD.mp z with z|z
  .simp[sgn]at z;omega
  .exact Y k a! z
theorem b2e{h m:Int}(hs:wI W ka! d W')(w:fk!)(hn:wU_):WOk W' wV_:=by
 have keep:∀{V:OW},V.its=W.its->V.txt=W.txt->El V->WOk V wV_:=λ{V} e1 e2 wi=>by
  refine⟨wi,a7!,ka_,ka_⟩
  .rw[e1]at L;exact BG _ (w.its x L)
  .rw[e1]at L;rw[e2]at hq;obtain⟨a,b,c,e,hm⟩:=w.sgs x L q hq;exact⟨a,b,c,e,BG _ hm⟩
  .rw[e1]at L;rw[e2]at hq;exact w.chr x L q hq
 cases hs with
 |put y1 y2 hg=>
  rename_i a b rows';have ni:D.tup ci_∉W.its:=λz=>hn (w.its _ z);have hp:Lb W dg_:=by split;assumption;exact .inr eZ_
  have im:∀x,x∈(wY!).its↔x∈W.its\/x=.tup ci_:=λx=>by simp[Lz]
  have tx:∀x,(wY!).txt x=if x=.tup ci_ then[]else W.txt x:=λx=>rfl
  refine⟨hg.winv_put w.inv ni bA! hp,a7!,ka_,ka_⟩
  .rcases(cz!).mp L with z|rfl
   .exact BG _ (w.its x z)
   .simp
  .rw[tx]at hq;by_cases e:x=.tup ci_
   .rw[AN e]at hq;cases hq
   .rw[AH e]at hq;obtain⟨a,b,c,e',hm⟩:=w.sgs x w2_ q hq;exact⟨a,b,c,e',BG _ hm⟩
  .rw[tx]at hq;by_cases e:x=.tup ci_
   .rw[AN e]at hq;cases hq
   .rw[AH e]at hq;exact w.chr x w2_ q hq
 |mvY _ _ _ hc hg=>exact keep rfl rfl w3_
 |mvN _ _ _ hc=>exact keep rfl rfl w.inv
 |drY _ hc hg=>exact keep rfl rfl w3_
 |drN _ hc=>exact keep rfl rfl w.inv
 |wrt y1 y2 y3 e=>
  rename_i a b s h' m';cases e;by_cases c:a∈W.its
  .rw[AN c];obtain⟨U,v,e1,e2,e3⟩:=dO b he! ao_;have mem:∀q,q∈wrT b he! ao_↔q∈W.txt a\/q∈s.cps.toList.zipIdx.map kX!:=λq=>by
    rw[e2,e1];simp only[AQ];constructor<;>(intro z;rcases z with(z|z)|z<;>simp[z])
   have fresh:∀x∈W.its,∀q∈W.txt x,∀k:Int,q.1≠.tup [aV!,d6_,g4_]:=λx L q hq k z=>by
    show"![";rw[e']at z;cases z;exact hn hm
   have tx:∀x,(w4!).txt x=if x=a then wrT b he! ao_ else W.txt x:=λx=>rfl
   have all:∀(P:D×D×Bool->Prop),(∀x∈W.its,∀q∈W.txt x,P q)->(∀q∈s.cps.toList.zipIdx.map kX!,P q)->∀x∈W.its,∀q∈(w4!).txt x,P q:=λP B Y x L q hq=>by
    rw[tx]at hq;by_cases e:x=a
    .rw[AN e]at hq;rcases(mem q).mp hq with z|z
     .exact B a c q z
     .exact Y q z
    .rw[AH e]at hq;exact B x L q hq
   refine⟨dU w.inv c ?_ d4_ nA_,λx L=>BG _ (w.its x L),all _ (λx L q hq=>?_) d4_,all _ w.chr d4_⟩
   .rw[e2];have nd:=w.inv.snd a c;rw[e1]at nd;obtain⟨n1,_⟩:=a5t h m s.cps.toList 0;have dj:∀q∈W.txt a,∀q'∈s.cps.toList.zipIdx.map kX!,q.1≠q'.1:=λq hq q' a7=>by
     obtain⟨c',k',rfl⟩:=bD a7;exact fresh a c q hq _
    simp only[BK]at nd ⊢;rw[BO]at nd;rw[BO,BO];refine⟨⟨nd.1,n1,jk!⟩,nd.2.1,jk!⟩
    .obtain⟨q,hq,rfl⟩:=AX.mp L;obtain⟨q',a7,rfl⟩:=AX.mp hy;exact dj q (by rw[e1];exact BG _ hq) q' a7
    .rcases AQ.mp L with L|L
     .exact nd.2.2 x L y hy
     .obtain⟨q',a7,rfl⟩:=AX.mp L;obtain⟨q,hq,rfl⟩:=AX.mp hy;exact AI (dj q (by rw[e1];exact AS _ hq) q' a7)
   .rcases(mem q).mp hq with z|z
    .exact w.inv.sg a c q z
    .obtain⟨c',k',rfl⟩:=bD z;exact vh!
   .rcases(mem q).mp hq with z|z
    .exact(w.inv.su a c y hy q z q' a7 e).symm
    .obtain⟨c',k',rfl⟩:=bD z;exact absurd e.symm (fresh y hy q' a7 _)
   .show"![";exact ou!
   .obtain⟨c',k',rfl⟩:=bD hq;exact⟨_,_,_,rfl,I!⟩
   .obtain⟨c',k',rfl⟩:=bD hq;exact K_
  .show"#!"
 |cut y1 y2 y3 y4=>
  rename_i a x y z m';by_cases c:a∈W.its
  .rw[AN c];have tx:∀v,(setT W a (cutT w7! ao_)).txt v=if v=a then cutT w7! ao_ else W.txt v:=λx=>rfl
   refine⟨rS w.inv c _,λv hv=>BG _ (w.its v hv),w7_,w7_⟩
   .rw[tx]at hq;split at hq
    .show"!;";obtain⟨a',b',c',e',hm⟩:=w.sgs a c q0 h0;exact ou!
    .obtain⟨a',b',c',e',hm⟩:=w.sgs v hv q hq;exact ou!
   .rw[tx]at hq;split at hq
    .show"!;";exact w.chr a c q0 h0
    .exact w.chr v hv q hq
  .show"#!"
 |set y1 y2 y3=>
  rename_i a p v;by_cases c:a∈W.its
  .rw[AN c];exact keep rfl rfl (a8w w.inv (by rw[EE];exact w.inv.nl a c))
  .show"#!"
end
theorem b6a:(Str.ofString "put"==Str.ofString "put")=true:=by decide+kernel
theorem uZ:(Str.ofString "move"==Str.ofString "move")=true:=by decide+kernel
theorem vA:(Str.ofString "drop"==Str.ofString "drop")=true:=by decide+kernel
theorem zP:(Str.ofString "write"==Str.ofString "write")=true:=by decide+kernel
theorem b6b:(Str.ofString "cut"==Str.ofString "cut")=true:=by decide+kernel
theorem b5z:(Str.ofString "set"==Str.ofString "set")=true:=by decide+kernel
section
variable{t:Bo}{M:Mh}{o:Addr}{rl:Addr->fU}{W W':OW}{hb:Nat}{R:D->Mh->Prop}{pre:List D}
theorem ifT{ft:aa!}{q1 q2:WS}{ρ:Ag}{R:m_}(h:w8!)(k:q1 ρ M R):Bj (Fj ft) q1 q2 ρ M R:=by simp only[Bj,Fj,h];exact k
theorem Qk{ft:aa!}{q1 q2:WS}{ρ:Ag}{R:m_}(h:w8_)(k:eg_):Bj (Fj ft) q1 q2 ρ M R:=by simp only[Bj,Fj,h];exact k
theorem Bq:(fT (f2 Bu bx_ (fC ov_))) [C!,dh!,some eh!]=some kb_:=by
 have e:Aq eh! I_=some U!:=by
  show ow!;show"!c"
 simp[fT,f2,Aa,fC,e,Nn]
theorem ix1:Aq ow_ aZ_=some a:=by show Gm (D.str k::a::r) 1=_;unfold Gm Iw;rw[ab!,eh_];simp
theorem ix2:Aq ox! bv!=some b:=by show Gm (D.str k::a::b::r) 2=_;unfold Gm Iw;rw[ab!,eh_];simp
theorem ix3:Aq ox_ aA_=some c:=by show Gm (D.str k::a::b::c::r) 3=_;unfold Gm Iw;rw[ab!,eh_];simp
theorem ax1:f2 Aq y! v_ [C!,dh!,some ow_]=some a:=ix1
theorem ax2:f2 Aq y! R! [C!,dh!,some ox!]=some b:=ix2
theorem ax3:f2 Aq y! as! [C!,dh!,some ox_]=some c:=ix3
theorem av0:Aa 0 xb_=some ae_:=rfl
theorem av1:Aa 1 xb_=some n:=rfl
theorem Ol{f:WE}{ρ:Ag}{R:m_}(k:f ρ M λ_ M1=>R aG! M1):En f ρ M R:=k
theorem lW{g:WF}{fo f1 f2 f3:e!}{ρ:Ag}(h0:fo ρ=some d)(B:fd!)(Y:g2_)(h3:oy!)(ho:kR!)(k:g [d,a,b,c] M R):Bx C m 4 g df_ (Ac jJ! (Ac (wl f2) (Ac (wl f3) Ak))) ρ M R:=by simp only[Bx,wl,Ac,Ak,h0,B,Y,h3];exact nZ_
theorem d1s{g:WF}{fo f1 f2 f3 f4:e!}{ρ:Ag}(h0:fo ρ=some d)(B:fd!)(Y:g2_)(h3:oy!)(h4:f4 ρ=some e)(ho:kR!)(k:g [d,a,b,c,e] M R):Bx C m 5 g df_ xc_ ρ M R:=by simp only[Bx,wl,Ac,Ak,h0,B,Y,h3,h4];exact nZ_
theorem c0o{h m:Int}(hO:au!)(w:fk!)(hn:wU_)(hs:wI W ka! d W')(hB:gQ!)
  (hR:∀M' ae,Er t M' o ae W' bk!->Fr M rl M' ae->R .non M'):aH t [a8_,.tup ci_,d] M R:=by
 have y9:=hO;obtain⟨a1,a2,a3,a4,a5,a6,k1,k2,k3,k4,k5,k6,hA⟩:=y9;have fresh:∀x∈W.its,∀k':Nat,D.tup [aV!,d6_,.int (k':Nat)]∉(aE_).map a_:=λx L k' z=>by
  obtain⟨q,hq,e⟩:=AX.mp z;show"![";rw[e']at e;cases e;exact hn hm
 refine j_;show a2u t [C!,some ka!,some d] M _;cases hs with
 |put ha J hg=>
  show"!1";obtain⟨kb,ke⟩:=kM J;refine ifT (Bq.trans (congrArg some b6a)) ?_;exact Ol (lW av0 av1 ax1 ax2 (hA.noOb oM4) (c5w hO w.inv (λz=>hn (w.its _ z)) bA! bi ke hB hg hR))
 |mvY ha J bp hc hg=>
  show"!L";exact Ol (lW av0 ax1 ax2 ax3 kc! (jB hO w.inv bi ke zc hB λM' f1 _ fr=>hR M' rl (f1 hc _ hg) fr))
 |mvN ha J bp hc=>
  show"!L";exact Ol (lW av0 ax1 ax2 ax3 kc! (jB hO w.inv bi ke zc hB λM' _ f1 fr=>hR M' rl (f1 hc) fr))
 |drY ha hc hg=>
  show"!}";exact Ol (lW av0 ax1 rfl rfl kc! (jB hO w.inv bi (kx:=oz_) rfl (ks:=none) rfl hB λM' f1 _ fr=>hR M' rl (f1 hc _ hg) fr))
 |drN ha hc=>
  show"!}";exact Ol (lW av0 ax1 rfl rfl kc! (jB hO w.inv bi (kx:=oz_) rfl (ks:=none) rfl hB λM' _ f1 fr=>hR M' rl (f1 hc) fr))
 |wrt ha J c7 e=>
  cases e;show"!1";obtain⟨kb,ke⟩:=a8u J;refine Qk (Bq.trans (congrArg some Tt)) ?_;refine Qk (Bq.trans (congrArg some Rm)) ?_;refine Qk (Bq.trans (congrArg some Rn)) ?_;refine ifT (Bq.trans (congrArg some zP)) ?_;exact Ol (d1s av0 av1 ax1 ax2 ax3 (hA.noOb oM7) (b1p hO w.inv bi ke hB c7 fresh λM' f1 _ fr=>hR M' rl f1 fr))
 |cut ha b5 B Y=>
  show"!1";refine Qk (Bq.trans (congrArg some aE)) ?_;refine Qk (Bq.trans (congrArg some Wq)) ?_;refine Qk (Bq.trans (congrArg some Wr)) ?_;refine Qk (Bq.trans (congrArg some Tv)) ?_;refine ifT (Bq.trans (congrArg some b6b)) ?_;exact Ol (lW av0 ax1 ax2 ax3 (hA.noOb oM8) (c8f hO w.inv bi hB b5 B Y λM' f1 fr=>hR M' rl f1 fr))
 |set ha B Y=>
  show"!1";refine Qk (Bq.trans (congrArg some aC)) ?_;refine Qk (Bq.trans (congrArg some Wo)) ?_;refine Qk (Bq.trans (congrArg some Wp)) ?_;refine Qk (Bq.trans (congrArg some Tu)) ?_;refine Qk (Bq.trans (congrArg some aD)) ?_;refine ifT (Bq.trans (congrArg some b5z)) ?_;exact Ol (lW av0 ax1 ax2 ax3 (hA.noOb oM9) (oG hO w.inv bi B Y λM' f1 fr=>hR M' rl (f1.mono a!) fr))
theorem c0p{k:Str}(hk:xh_)(hR:R .non M):aH t [a8_,n,.tup kc_] M R:=by
 refine j_;show a2u t [C!,dh!,some (.tup kc_)] M _;rcases hk with rfl|rfl
 .refine Qk (Bq.trans (congrArg some gP)) ?_;refine Qk (Bq.trans (congrArg some bX)) ?_;refine Qk (Bq.trans (congrArg some bY)) ?_;refine Qk (Bq.trans (congrArg some Ze)) ?_;refine Qk (Bq.trans (congrArg some gQ)) ?_;refine Qk (Bq.trans (congrArg some zJ)) ?_;exact hR
 .refine Qk (Bq.trans (congrArg some gR)) ?_;refine Qk (Bq.trans (congrArg some cB)) ?_;refine Qk (Bq.trans (congrArg some cC)) ?_;refine Qk (Bq.trans (congrArg some Zf)) ?_;refine Qk (Bq.trans (congrArg some gS)) ?_;refine Qk (Bq.trans (congrArg some zM)) ?_;exact hR
theorem Ft{bnd:af_}{ck:bE!}{ft:WT}{fe:WE}{ρ:Ag}(b:D->Bool)(y:D->D)(dw:ck M):∀(ds:b!) (R:pa_),
  (∀d∈ds,∃ah,bnd d ρ=some ah/\(∀K:Bool->Mh->Prop,K (b d) M->ft ah M K)/\(b d=true->∀K:D->Mh->Prop,K (y d) M->fe ah M K))->R ((ds.filter b).map y) M->rV bnd ck ft fe ρ ds M R
 |[],R,_,hR=>⟨dw,hR⟩
 |d::ds,R,h,hR=>by
  obtain⟨ah,e1,e2,e3⟩:=h d AM;refine oF!;rw[e1];show ft ah M _;refine e2 _ ?_;cases J:b d with
  |true=>
   rw[j!];refine e3 J _ (Ft b y dw ds _ xo! ?_);rw[CK J]at hR;exact hR
  |false=>
   rw[T!];refine Ft b y dw ds _ xo! ?_;rw[CL (by simp[J])]at hR;exact hR
noncomputable def shn(W:OW)(x:D):List dX_:=(aE_).filter (·.2.2)
theorem xC(hO:au!)(w:El W)(L:aS_)(hB:hb<4000)(hR:R (.lst oF_) M):Hd t d0_ M R:=by
 obtain⟨a1,a2,a3,a4,a5,a6,k1,k2,k3,k4,k5,k6,hA⟩:=hO;obtain⟨e3,h3⟩:=hA.d3;obtain⟨e6,h6⟩:=hA.d6;obtain⟨k,hk⟩:=(w.nm x L).key;obtain⟨r,f,p,g1,g2,g3,g4,g5⟩:=hA.txt x L;have lt:=hA.lt x L;refine j_;have t9:∀R',w2 Dz eF! u! kd! M R'=R' aS! M:=by
  intro R';simp[w2,wl,Bs,Mo,hA.ob,oF3,Dz,h3,hk,g1,Ie,Aa]
 show Bz (Ea 1 [0] _ _ _ _) kd! M _;simp only[Bz,Ea,Em,Bx,t9,Ak];refine⟨by simp only[Gg,g2.ob,rM.2.2.1,and_self],rfl,?_⟩;refine qV g2 b3_ (a5k w L) ?_;refine dm_;refine Ft (λd=>!(kget k6 d).isSome) id trivial _ _ bU! ?_
 .show"!>";obtain⟨kq,ue⟩:=(uQ!).key;refine⟨[some q.1,C!],rfl,kd_,xq!⟩;simpa[wT,w2,wl,Bs,Mo,Aa,Ie,hA.ob,oF6,Qj,h6,ue]using hK
 .have e:((nf!).filter λd=>!(kget k6 d).isSome).map id=(dm!).map a_:=by
   rw[JM];unfold shn;rw[GC];congr 1;apply DZ;intro q hq;simp only[Function.comp];rw[hA.hi x L q hq];simp
  rw[e];exact hR
theorem a1y(hO:au!)(w:El W)(L:aS_)(hB:hb<4000)(hj:oG_)(hR:R v M):Jo t d0_ M R:=by
 have y9:=hO;obtain⟨a1,a2,a3,a4,a5,a6,k1,k2,k3,k4,k5,k6,hA⟩:=y9;obtain⟨e5,h5⟩:=hA.d5;have lt:=hA.lt x L;refine j_;show Bz (jP _ (Ea 1 [0] rJ_ _ _ _)) kd! M _;simp only[Bz,jP,Ea,Em];have hm:∀(K:u_),K (.lst oF_) M->Bx t.B4 "signs_of" 2 (Hd t) i! aJ! kd! M K:=λK hK=>⟨hA.noOb d5k,rfl,xC hO w L hB hK⟩;refine hm _ ?_;have ls:(dm!).length<=(aE_).length:=DO _ _;refine dm_;refine Ft fm_ (λd=>(kget k5 d).getD .non) trivial _ _ bU! ?_
 .show"!>";have a7:=(oH!).1;obtain⟨kq,ue⟩:=(w.sg x L q a7).key;refine⟨[some q.1,C!],rfl,hi!,ei!⟩;simpa[w2,wl,Bs,Mo,Aa,Ie,hA.ob,oF5,Dz,h5,ue,hA.wr x L q a7]using hK
 .have e:(((oF_).filter λ_=>true).map λd=>(kget k5 d).getD .non)=(dm!).map ke!:=by
   rw[hi_,CB];apply CW;intro q hq;simp only[Function.comp];rw[hA.wr x L q (oH!).1];rfl
  rw[e];show Ie xt_ _;rw[hj];exact hR
end
structure Op where
 h:Int
 n:Int
 tm:Int
 d:D
noncomputable def Op.v(o:Op):D:=.tup kf_
noncomputable def Op.nm(o:Op):D:=.tup [hj!,.int o.n]
noncomputable def Op.key(o:Op):Int×Int:=(o.tm,o.h)
noncomputable def Nq:D->Option ci!
 |.tup [.str k,a]=>if oH_ then some (k,a)else none
 |_=>none
theorem Ru(k:Str)(a:D):Nq (.tup kc_)=if oH_ then some (k,a)else none:=rfl
theorem jG(h:DG d):(∃k a,d=.tup kc_/\xu!/\NameG a/\Nq d=some (k,a))\/(∃k r,d=.tup dj!/\hj_=false/\(k=="redo")=false/\Nq d=none):=by
 have uu:oI!=true:=by decide+kernel
 have rr:oI_=true:=by decide+kernel
 cases h with
 |put B Y=>exact .inr ⟨_,_,rfl,gU,gV,rfl⟩
 |move B Y h3=>exact .inr ⟨_,_,rfl,uX,uY,rfl⟩
 |drop B=>
  refine .inr ⟨_,_,rfl,cD,cE,?_⟩;rw[Ru,cD,cE];rfl
 |write B Y h3 h4 h5=>exact .inr ⟨_,_,rfl,pI,pJ,rfl⟩
 |cut B Y h3 h4=>exact .inr ⟨_,_,rfl,zN,zO,rfl⟩
 |set B Y h3 h4=>exact .inr ⟨_,_,rfl,zK,zL,rfl⟩
 |undo B=>
  refine .inl ⟨_,_,rfl,cV!,B,?_⟩;rw[Ru,uu];rfl
 |redo B=>
  refine .inl ⟨_,_,rfl,.inr rfl,B,?_⟩;rw[Ru,rr,bZ];rfl
theorem vC(o:Op):Gh [o.v]=some xu_:=by simp[Gh,Uk,Op.v,Eu,Cw,Cf,Ad,Ao,f2,Aa,fC,Aq,Gm,Iw]
theorem mQ:∀ops:List Op,aF Gh ei_=some oJ!
 |[]=>rfl
 |o::r=>by
  rw[AK];unfold aF;rw[vC,mQ r];rfl
theorem d1v(o:Op):Qh Gh o.v=o.key:=by unfold Qh;rw[vC];rfl
theorem zW{α β:Type}{f:k8_}{k:α->Int×Int}{k':β->Int×Int}(h:xv!)(x:α):∀l:List α,nA k' (f x) hN_=(nA k x l).map f
 |[]=>rfl
 |y::r=>by
  simp only[AK,nA,h];split
  .rfl
  .rw[zW h x r];rfl
theorem kJ{α β:Type}{f:k8_}{k:α->Int×Int}{k':β->Int×Int}(h:xv!):∀l:List α,Rc k' hN_=(Rc k l).map f
 |[]=>rfl
 |x::r=>by rw[AK];unfold Rc;rw[kJ h r,zW h]
abbrev Re(ops:l!):List Op:=Rc Op.key ops
theorem Wy{ops:l!}(nd:ej!)(hl:dn!):Gj cj_=some (.lst fn!):=by
 have e:c5h Gh ei_=some fn!:=by
  unfold c5h;rw[mQ];show(if(oJ!).Nodup/\(ei_).length<64 then some _ else none)=_;rw[AN ⟨nd,ko_⟩,kJ d1v]
 simp[Gj,lD,Eu,Cw,a4i,Aa,e]
theorem Vk{a b:l!}(h:a.Perm b)(nd:xv_):Re a=Re b:=
 bC (Ry nd) (Ry ((h.map _).nodup_iff.mp nd)) ((Ew a).trans (h.trans (Ew b).symm))
theorem b2f{a:l!}(nd:xv_):Re (Re a)=Re a:=Vk (Ew a) (((Ew a).map _).nodup_iff.mpr nd)
theorem c3j{o:Op}(h:DG o.d):Ch [o.v]=some oK!:=by
 have e3:Aq o.v aA_=some o.d:=by
  simp[Op.v,Aq,Gm,Iw]
 have main:∀(k:Str) (r:b!),o.d=.tup dj!->Ch [o.v]=some (.bl oH_):=λk r e=>by
  have e0:Aq eh! I_=some U!:=by
   show ow!;show"!c"
  have e1:∀s:Str,f2 Bu io! (fC aw_) bD_=some (.bl (k==s)):=λs=>by
   show(oK_).bind xx!=_;rw[e3,e];show((Aq eh! I_)).bind xx!=_;rw[e0];exact Nn k s
  show(match Cw (Js _ _) bD_ with|some (.rt d)=>some d|some (.nx _)=>some .non|none=>none)=_;unfold Cw Js fT;rw[e1,e1];cases (k==Str.ofString "undo")<;>rfl
 rcases jG h with⟨k,a,e,hk,_,hu⟩|⟨k,r,e,B,Y,hu⟩
 .rw[main k [a] e,hu];rcases hk with rfl|rfl
  .rw[xx_];rfl
  .rw[xy!,bZ];rfl
 .rw[main k r e,hu,B,Y];rfl
noncomputable def fX(f:Str->D):List Op->List ay!->List ay!
 |[],acc=>acc
 |o::os,acc=>match Nq o.d with
  |some (k,a)=>fX f os (Bk acc a (f k))
  |none=>fX f os acc
theorem jN:∀(os:l!) (A hb:h_),(∀x,(kget A x=none/\kget hb x=none)\/∃k:Str,kget A x=some U!/\kget hb x=some fn_)->
  ∀x,(kget xy_ x=none/\kget xz! x=none)\/∃k:Str,kget xy_ x=some U!/\kget xz! x=some fn_
 |[],A,hb,h=>h
 |o::os,A,hb,h=>by
  unfold fX;cases e:Nq o.d with
  |none=>exact jN os A hb h
  |some q=>
   obtain⟨k,a⟩:=q;refine jN os _ _ λx=>?_;by_cases c:a=x
   .subst c;rw[Gu,Gu];exact .inr ⟨k,rfl,rfl⟩
   .rw[Hb c,Hb c];exact h x
section
variable{t:Bo}{M:Mh}{R:D->Mh->Prop}
theorem Ob{kvs:h_}{ep:Nat}(h:bS_)(hk:ck!)(hl:dr!):Ux M D_ y v=some hF!:=by simp[Ux,h,hk,hl]
theorem qR(h:NameG x):∃k,Ge x=some k:=by obtain⟨a,b,rfl,_⟩:=h;exact K_
theorem d2v:Aa 1 oL_=some D_:=rfl
theorem uD:∀(os:l!) (x1:D) (y:av_) (acc:h_) (ep:Nat) (M:Mh) (R:m_),oM!->cL!+ax_<1000->M p=some oM_->
  (∀M' a9 y',M' p=some (.dct xz_ a9)->hk_->R xA! M')->
  Kr a3_ Q_ rL_ J_ oL_ M R
 |[],x1,y,acc,ep,M,R,_,_,hp,hR=>xB!
 |o::os,x1,y,acc,ep,M,R,hd,hl,hp,hR=>by
  refine aU_;show Bj fo! _ _ bU_ M _;have ho:=hd o AM;have et:fT (f1 Ch b4_) bU_=some (Nq o.d).isSome:=by
   have e:f1 Ch b4_ bU_=some oK!:=c3j ho;unfold fT;rw[e];rfl
  simp only[AR]at hl;have e3:Aq o.v aA_=some o.d:=by simp[Op.v,Aq,Gm,Iw]
  rcases jG ho with⟨k,a,e,hk,ip,hu⟩|⟨k,r,e,B,Y,hu⟩
  .rw[hu]at et;refine ifT et ?_;obtain⟨ka,li⟩:=qR ip;have i0:f2 Aq a3! F_ bU_=some U!:=by
    show oK_=_;rw[e3,e];show Gm [D.str k,a] 0=_;simp[Gm,Iw]
   have i1:f2 Aq a3! v_ bU_=some a:=by
    show xB_;rw[e3,e];show Gm [D.str k,a] 1=_;simp[Gm,Iw]
   have gw:Ux M D_ a U!=some xC!:=by
    exact Ob hp li g7_
   have:=uD (p:=p) os x1 ej_ (Bk acc a U!) (Lq acc a ep) xC! R hl! (by have:=kput_len acc a U!;omega) mup_same (λM' a9 y' B Y=>hR M' a9 y' xC_ λb J=>(Y b J).trans kg_);show Ei _ _ _ _ M _;simp only[Ei,wl,i0,i1,d2v,gw,Ie];exact this
  .rw[hu]at et;refine Qk et ?_;exact uD (p:=p) os x1 ej_ acc ep M R hl! a! hp xD!
theorem jF{f:e!}{ρ:Ag}(h:f ρ=some cd_):Hk f ρ=some ds:=by unfold Hk;rw[h];rfl
theorem oV{ops:l!}(nd:ej!)(hl:dn!)(hd:hl_)
  (hR:∀p M' ep,M p=none->M' p=some (.dct hm! ep)->hk_->R D_ M'):Kb cj_ M R:=by
 refine j_;show Ap kl! _ xF_ M _;intro p hp;have hi:Hk ip! kh!=some fn!:=jF (Wy nd hl);have bq:(aW!).Perm ops:=Ew ops;have:=uD (p:=p) aW! hm_ none [] 0 cK_ (λr M1=>match r with|.nx ah=>Bz u! ah M1 gN_|.rt d=>R d M1) xG! xG_ mup_same xH!;show Ap (Fn (Qt _) _ _) _ kh! _ _;simp only[Ap,Fn,Qt,hi,Ie];exact this
theorem t2{g:aV_}{fa:WE}{fb:e!}{ρ:Ag}{K:fw_}{b:Bool}(ha:∀K':D->Mh->Prop,K' d M->fa ρ M K')(J:fb ρ=some v)(hg:g d v=some bI_)(k:K b M):wT (w2 pd_ fa fp_) ρ M K:=by unfold wT w2;refine ha _ ?_;simp only[wl,J,hg];exact k
noncomputable def Undn(wd:h_)(o:Op):Prop:=Nq o.d=none/\kget wd o.nm=some b4!
theorem b2h(o:Op):Cy o.v none (some 2)=some o.nm:=by simp[Op.v,Op.nm,Cy,Ha,HT.sIx]
theorem a3n(o:Op):∃k,Ge o.nm=some k:=K_
theorem a5j{e0:Nat}(p8:p≠q):∀(os:l!) (x1:D) (y z:av_) (acc:h_) (ep:Nat) (M:Mh) (R:m_),oM!->cL!+ax_<1000->M p=some (.dct wd e0)->M q=some oM_->(∀x v,kget wd x=some v->∃k:Str,v=.str k)->
  (∀M' a9 y' z' c8,M' q=some (.dct c8 a9)->(∀x,kget c8 x≠none↔(kget acc x≠none\/∃o∈os,o.nm=x/\Undn wd o))->xK!->R (.nx [P_,Q!,aX!,y',z']) M')->
  Kr z! Q_ it! J_ [P_,Q!,aX!,y,z] M R
 |[],x1,y,z,acc,ep,M,R,_,_,hp,hq,kg,hR=>⟨trivial,hR M ep y z acc hq xK_ λb _=>rfl⟩
 |o::os,x1,y,z,acc,ep,M,R,hd,hl,hp,hq,kg,hR=>by
  refine aU_;show Ap (Ba 4 _) _ xL! M _;have ho:=hd o AM;simp only[AR]at hl;have es:Ji G_ Cb cX! xL!=some o.nm:=b2h o;simp only[Ap,Ba,wl,es];show Bj _ _ _ dn_ M _;have et:Gd rN! dn_=some (!(Nq o.d).isSome):=by
   have e:f1 Ch gl_ dn_=some oK!:=c3j ho;unfold Gd fT;rw[e];rfl
  obtain⟨kn,f7⟩:=a3n o;have next:∀(c:Prop),(c↔Undn wd o)->∀c8 a9 M',M' q=some (.dct c8 a9)->(∀x,kget c8 x≠none↔(kget acc x≠none\/(x=o.nm/\c)))->c8.length<=cL!+1->xK!->
    Kr z! Q_ it! J_ dn_ M' R:=λc hc c8 a9 M' B Y h3 h4=>by
   refine a5j (p:=p) (q:=q) (wd:=wd) (e0:=e0) p8 os x1 _ _ c8 a9 M' R hl! a! ((h4 p p8).trans hp) B kg λM2 r9 y2 z2 UD g1 g2 g3=>hR M2 r9 y2 z2 UD g1 oQ_ λb J=>(g3 b J).trans (h4 b J);rw[g2,Y];show"!J"
   .rintro((u|⟨u1,u2⟩)|⟨o',u1,u2,u3⟩)
    .exact .inl u
    .exact .inr ⟨o,AM,u1.symm,hc.mp u2⟩
    .exact .inr ⟨o',AE _ u1,u2,u3⟩
   .rintro(u|⟨o',u1,u2,u3⟩)
    .exact .inl (.inl u)
    .rcases AD.mp u1 with rfl|u1
     .exact .inl (.inr ⟨u2.symm,hc.mpr u3⟩)
     .exact .inr ⟨o',u1,u2,u3⟩
  have no:(¬Undn wd o)->Kr z! Q_ it! J_ dn_ M R:=λh=>next False (by simp[h]) acc ep M hq xK_ a! λb _=>rfl;cases hu:Nq o.d with
  |some u=>
   rw[hu]at et;simp only[Bj,Mm,Fj,et];exact no λz=>by rw[z.1]at hu;cases hu
  |none=>
   rw[hu]at et;simp only[Bj,Mm,Fj,et];have hg:∀(K:u_),K xN_ M->dP u! a1_ dn_ M K:=λK hK=>by
    have c1:Ip M D_=some (p,wd,e0):=by simp[Ip,hp]
    show Ie (Ip M D_) λ_=>Ie (Ip M D_) λq=>Ie (Ge o.nm) λ_=>K ((kget q.2.1 o.nm).getD .non) M;rw[c1,f7];exact hK
   have UE:Sd xN_:=by
    cases e:kget wd o.nm with
    |none=>exact .inl rfl
    |some v=>obtain⟨k,rfl⟩:=kg _ _ e;exact Pw k
   have NM:(oS!).getD .non=.str "undo"↔Undn wd o:=by
    unfold Undn;rw[hu];cases e:kget wd o.nm with
    |none=>simp
    |some v=>simp
   refine t2 hg (v:=ob!) rfl (Yg UE (Pw _)) ?_;by_cases c:(oS!).getD .non=.str "undo"
   .rw[BJ c];have gw:=Ob (y:=o.nm) (v:=f9!) hq f7 g7_;have f2:Aa 2 dn_=some bB!:=rfl;have f4:Aa 4 dn_=some o.nm:=rfl;rw[j!];simp only[Ei,wl,fC,f2,f4,gw,Ie];refine next True (by simp[<-NM,c]) _ _ _ mup_same oQ_ dX! λb J=>mup_ne J;by_cases e:o.nm=x
    .subst e;rw[Gu];simp
    .rw[Hb e];simp[AI e]
   .rw[AU c];rw[T!];exact no λz=>c (NM.mpr z)
theorem sF:∀(os:l!) (acc:h_),(∀x v,kget acc x=some v->∃k:Str,v=.str k)->∀x v,kget xz_ x=some v->∃k:Str,v=.str k
 |[],acc,h=>h
 |o::os,acc,h=>by
  unfold fX;cases e:Nq o.d with
  |none=>exact sF os acc h
  |some q=>
   obtain⟨k,a⟩:=q;refine sF os _ λx v L=>?_;by_cases c:a=x
   .subst c;rw[Gu]at L;cases L;exact⟨k,rfl⟩
   .rw[Hb c]at L;exact h x v L
theorem a8o{ops:l!}(nd:ej!)(hl:dn!)(hd:hl_)
  (hR:∀q M' ep kq,M q=none->M' q=some (.dct kq ep)->(∀x,kget kq x≠none↔∃o∈ops,o.nm=x/\Undn hm! o)->xO_->R bB! M'):Sl cj_ M R:=by
 refine j_;show Ap rM! _ oS_ M _;have hc:∀(K:u_),Kb cj_ M K->Ay 1 Kb aQ! oS_ M K:=λK h=>ca_;refine hc _ (oV nd hl hd λp M1 ep hp hM1 fr=>?_);show Ap eG_ _ [aW_,Q!,none,none,none] M1 _;intro q hq;have p8:p≠q:=λz=>by rw[<-z,hM1]at hq;cases hq
 have nv:M q=none:=by rw[<-fr q (AI p8)];exact hq
 have hi:Hk i_ xP!=some ei_:=rfl;show Ap (Fn iq! _ _) _ xP! (Cg M1 q E!) _;simp only[Ap,Fn,Qt,hi,Ie];refine a5j (wd:=oT!) (e0:=ep) p8 ops hm_ none none [] 0 _ _ hd b3_ ((mup_ne p8).trans hM1) mup_same (sF _ [] λx v h=>by simp[kget]at h) λM' a9 y' z' c8 B Y h3=>?_;refine hR q M' a9 c8 nv B oQ_ λb J=>?_
 .rw[Y];simp[kget]
 .have b1:b≠q:=λz=>J (by rw[z];exact nv);have b2:b≠p:=λz=>J (by rw[z];exact hp);rw[h3 b b1,mup_ne b1,fr b b2]
end
noncomputable def W0:OW:=⟨[],[],λ_=>[],λ_=>[]⟩
theorem c4s:WOk W0 []:=by refine⟨⟨by simp[W0],do!,by simp[W0],λx=>by simp[W0],xR!,⟨λ_=>0,xR!⟩,do!,do!,do!,do!⟩,do!,do!,do!⟩
section
variable{t:Bo}{M:Mh}{R:D->Mh->Prop}
theorem Fh(f:Str)(v:D):∀l:List ci!,(Dk f v l).length<=ai_+1
 |[]=>by simp[Dk]
 |(g,x)::r=>by
  unfold Dk;split
  .simp
  .have:=Fh f v r;simp;omega
noncomputable def Kp(o:Addr)(M M':Mh):Prop:=∀c,M c≠none->c≠o->M' c=M c
theorem Kp.trans{M M1 M2:Mh}(a:Kp o M M1)(b:Kp o M1 M2):Kp o M M2:=λc B Y=>by
 have e:=a c B Y;rw[b c (by rw[e];exact B) Y,e]
theorem cY{fs:aN!}{R:m_}(ho:M o=some g2!)(hl:bs!<100)
  (hR:∀a M',M a=none->M' a=some E!->M' o=some (.obj C (Dk x cB_ fs))->Kp o M M'->(∀c,M' c≠none->M c≠none\/c=a)->R (.nx [C!]) M'):Hm C x i! Jk [C!] M R:=by
 intro a ha;have oa:o≠a:=λz=>by rw[<-z,ho]at ha;cases ha
 have e:Cg M a E! o=some g2!:=(mup_ne oa).trans ho;have f0:Aa 0 [C!]=some ae_:=rfl;simp only[wl,f0,e];refine⟨trivial,hl,hR a _ ha ((mup_ne (AI oa)).trans mup_same) mup_same (λc B Y=>?_) λc hc=>?_⟩
 .rw[cA!,mup_ne λz=>B (by rw[z];exact ha)]
 .by_cases c1:c=a
  .exact .inr c1
  .by_cases c2:c=o
   .rw[c2,ho];exact .inl d_
   .rw[ki_,mup_ne c1]at hc;exact .inl hc
theorem pc{fa:e!}{fb:WE}{fp:WP}{ρ:Ag}{R:yX!}(h:fa ρ=some x)(k:fb ρ M λy M2=>fp ρ M2 λkvs M3=>R ((x,y)::kvs) M3):Iy ho_ fb fp ρ M R:=by simp only[Iy,wl,h];exact k
theorem uA{ρ:Ag}(hR:∀o rl M',M o=none->Er t M' o rl W0 2->oU_->R ae_ M'):Np t.B4 1 (Pn t) Ak ρ M R:=by
 refine⟨rfl,λo ho=>j_⟩;have f0:Aa 0 [C!]=some ae_:=rfl;show Ap (Hm t.B4 "parents" _ _) _ [C!] (Cg M o oV!) _;intro a1 v8;have jp:a1≠o:=λz=>by rw[z,mup_same]at v8;cases v8
 rw[mup_ne jp]at v8;refine⟨mup_same,Z_,kj!,?_,?_⟩
 .rcases AD.mp hq with rfl|hq
  .rfl
  .rw[AT.mp hq];rfl
 .show(fs_).Nodup;rw[AV];exact xS_
 have e1:Cg oV_ a1 oW_ o=some oV!:=by rw[xT_,xT_,mup_same]
 simp only[wl,f0];show(match Cg oV_ a1 oW_ o with|some (.obj C' fs)=>_|_=>False);rw[e1];refine⟨rfl,Z_,?_⟩;generalize v9:Cg (Cg oV_ a1 oW_) o oX!=S1;have p9:S1 o=some oX!:=by rw[<-v9,mup_same]
 have qc:S1 a1=some (.dct kj_ 2):=by rw[<-v9,mup_ne jp,mup_same];rfl
 have UF:∀c,c≠o->c≠a1->S1 c=M c:=λc B Y=>by rw[<-v9,cc!,cA!,cA!,cc!]
 clear v9 e1;show Ap (Hm t.B4 "rows" _ _) _ [C!] S1 _;intro a2 qe;have jq:a2≠o:=λz=>by rw[z,p9]at qe;cases qe
 refine pc rfl ?_;refine bT λr1 f1 p1 N1 z1 z2 z3 _ _ R1 K1=>?_;refine pc rfl ?_;refine bT λr2 f2 p2 N2 y1 y2 y3 _ _ R2 K2=>?_;have l1:∀c,Cg S1 a2 E! c≠none->N1 c=Cg S1 a2 E! c:=λc hc=>K1 c (Bl hc z1) (Bl hc z2) (Bl hc z3);have l2:∀c,N1 c≠none->N2 c=N1 c:=λc hc=>K2 c (Bl hc y1) (Bl hc y2) (Bl hc y3);have zd:N1 a2=some E!:=by rw[l1 a2 oX_,mup_same]
 have UG:N2 a2=some E!:=by rw[l2 a2 (by rw[zd];simp),zd]
 have ze:N1 o=S1 o:=by rw[l1 o (by rw[kk!,p9];simp),kk!]
 have UH:N2 o=S1 o:=by rw[l2 o xU_,ze]
 refine⟨UG,I!,kj!,?_,?_⟩
 .rcases AD.mp hq with rfl|hq
  .rfl
  .rw[AT.mp hq];rfl
 .show(fs_).Nodup;rw[AV];exact xS_
 have e2:Cg N2 a2 oY_ o=some oX!:=by rw[kk!,UH,p9]
 simp only[wl,f0];show(match Cg N2 a2 oY_ o with|some (.obj C' fs)=>_|_=>False);rw[e2];refine⟨rfl,by have:=Fh dZ_ ft! [];simp at this;omega,?_⟩;generalize wb:Cg (Cg N2 a2 oY_) o xV!=S2;have NN:S2 o=some xV!:=by rw[<-wb,mup_same]
 have zf:S2 a2=some (.dct kl_ 2):=by rw[<-wb,mup_ne jq,mup_same];rfl
 have uf:∀c,c≠o->c≠a2->S2 c=N2 c:=λc B Y=>by rw[<-wb,cc!,cA!]
 clear wb e2;have ny:∀c,N1 c≠none->c≠r2/\c≠f2/\c≠p2:=λc hc=>⟨Bl hc y1,Bl hc y2,Bl hc y3⟩;have v1:=R1.live;have v2:=R2.live;have nr:∀c,Cg S1 a2 E! c≠none->c≠r1/\c≠f1/\c≠p1:=λc hc=>⟨Bl hc z1,Bl hc z2,Bl hc z3⟩;have so:Cg S1 a2 E! o≠none:=by rw[kk!,p9];simp
 have sa:Cg S1 a2 E! a2≠none:=by rw[mup_same];simp
 have zg:Kp o S1 S2:=λc hc h=>by
  have c2:c≠a2:=λz=>hc (by rw[z];exact qe);have s:Cg S1 a2 E! c≠none:=by rw[ki_];exact hc
  have e:=l1 c s;rw[uf c h c2,l2 c (by rw[e];exact s),e,ki_]
 refine cY (x:=hq_) NN (by have:=Fh c9! hp_ ft_;have:=Fh dZ_ ft! [];simp at this;omega) λa3 S3 q3 zh NO ug w3=>?_;refine cY (x:=nm!) NO (by have:=Fh d0! kn! hq!;have:=Fh c9! hp_ ft_;have:=Fh dZ_ ft! [];simp at this;omega) λa4 S4 q4 zi NP qf w4=>?_;refine cY (x:="written") NP (by have:=Fh e3! (.fn a4) oZ!;have:=Fh d0! kn! hq!;have:=Fh c9! hp_ ft_;have:=Fh dZ_ ft! [];simp at this;omega) λa5 S5 q5 zj NQ nz w5=>?_;refine cY (x:="hidden") NQ (by have:=Fh np_ (.fn a5) xY!;have:=Fh e3! (.fn a4) oZ!;have:=Fh d0! kn! hq!;have:=Fh c9! hp_ ft_;have:=Fh dZ_ ft! [];simp at this;omega) λa6 S6 q6 UI zk NR w6=>?_;have hob:Dk uK_ (.fn a6) (Dk np_ (.fn a5) xY!)=oF a1 a2 a3 a4 a5 a6:=by kernel_rfl
 rw[hob]at zk;have NS:=nz.trans NR;have NT:=qf.trans NS;have wc:=ug.trans NT;have NU:=zg.trans wc;have lo:∀{N:Mh} {c:Addr} {x:dN},N c=some x->N c≠none:=λh=>by rw[h];simp
 have o3:a3≠o:=λz=>by rw[z,NN]at q3;cases q3
 have o4:a4≠o:=λz=>by rw[z,NO]at q4;cases q4
 have o5:a5≠o:=λz=>by rw[z,NP]at q5;cases q5
 have o6:a6≠o:=λz=>by rw[z,NQ]at q6;cases q6
 have F1:S6 a1=some (.dct kj_ 2):=(NU a1 (lo qc) jp).trans qc;have F2:S6 a2=some (.dct kl_ 2):=(wc a2 (lo zf) jq).trans zf;have F3:S6 a3=some E!:=(NT a3 (lo zh) o3).trans zh;have F4:S6 a4=some E!:=(NS a4 (lo zi) o4).trans zi;have F5:S6 a5=some E!:=(NR a5 (lo zj) o5).trans zj;have F6:=UI;have zl:∀c,N1 c≠none->c≠o->c≠a2->S6 c=N1 c:=λc hc B Y=>by
  have e:=l2 c hc;have e':=uf c B Y;rw[wc c (by rw[e',e];exact hc) B,e',e]
 have zm:∀c,N2 c≠none->c≠o->c≠a2->S6 c=N2 c:=λc hc B Y=>by
  have e':=uf c B Y;rw[wc c (by rw[e'];exact hc) B,e']
 have qg:=nr o so;have qh:=nr a2 sa;have Q1:Iq t S6 r1 f1 p1 []:=R1.keep (zl _ v1.1 (AI qg.1) (AI qh.1)) (zl _ v1.2.1 (AI qg.2.1) (AI qh.2.1)) (zl _ v1.2.2 (AI qg.2.2) (AI qh.2.2));have mo:=ny o xU_;have ma:=ny a2 (lo zd);have Q2:Iq t S6 r2 f2 p2 []:=R2.keep (zm _ v2.1 (AI mo.1) (AI ma.1)) (zm _ v2.2.1 (AI mo.2.1) (AI ma.2.1)) (zm _ v2.2.2 (AI mo.2.2) (AI ma.2.2))
 let rl:Addr->fU:=λc=>if c=o then .ob else if c=a1 then .par else if c=a2 then .rows else if c=a3 then .texts else if c=a4 then .nums else if c=a5 then .writ else if c=a6 then .hid else if c=r1 then .rO root else if c=f1 then .rF root else if c=p1 then .rP root else if c=r2 then .rO binn else if c=f2 then .rF binn else if c=p2 then .rP binn else .oth
 have UJ:∀c,M c≠none->S6 c=M c/\c≠o/\c≠a1/\c≠a2/\c≠a3/\c≠a4/\c≠a5/\c≠a6/\vt!/\(c≠r2/\c≠f2/\c≠p2):=λc hc=>by
  have c0:c≠o:=Bl hc ho;have c1:c≠a1:=Bl hc v8;have s1:S1 c=M c:=UF c c0 c1;have uh:S1 c≠none:=by rw[s1];exact hc
  have c2:c≠a2:=Bl uh qe;have s2:S2 c≠none:=by rw[zg c uh c0];exact uh
  have c3:c≠a3:=Bl s2 q3;have s3:S3 c≠none:=by rw[ug c s2 c0];exact s2
  have c4:c≠a4:=Bl s3 q4;have s4:S4 c≠none:=by rw[qf c s3 c0];exact s3
  have c5:c≠a5:=Bl s4 q5;have s5:S5 c≠none:=by rw[nz c s4 c0];exact s4
  have c6:c≠a6:=Bl s5 q6;have sm:Cg S1 a2 E! c≠none:=by rw[ki_];exact uh
  have n1:N1 c≠none:=by rw[l1 c sm];exact sm
  exact⟨(NU c uh c0).trans s1,c0,c1,c2,c3,c4,c5,c6,nr c sm,ny c n1⟩
 refine⟨trivial,hR o rl S6 ho ⟨a1,a2,a3,a4,a5,a6,kj_,kl_,[],[],[],[],?_⟩ λb J=>?_⟩
 .have g0:rl o=.ob:=AN rfl;have W7:S6 a1≠none:=lo F1;have g1:rl a1=.par:=by show(if a1=o then _ else _)=_;rw[AH jp,j!]
  have NV:a2≠a1:=λz=>by rw[z,qc]at qe;cases qe
  have g2:rl a2=.rows:=by show(if a2=o then _ else _)=_;rw[AH jq,AH NV,j!]
  have zn:S2 a1≠none:=by rw[zg a1 (lo qc) jp];exact lo qc
  have zo:S2 a2≠none:=lo zf;have UK:=AI (Bl zn q3);have y6:=AI (Bl zo q3);have g3:rl a3=.texts:=by show(if a3=o then _ else _)=_;rw[AH o3,AH UK,AH y6,j!]
  have zp:S3 a1≠none:=by rw[ug a1 zn jp];exact zn
  have zq:S3 a2≠none:=by rw[ug a2 zo jq];exact zo
  have zr:S3 a3≠none:=lo zh;have g4:rl a4=.nums:=by show(if a4=o then _ else _)=_;rw[AH o4,AH (AI (Bl zp q4)),AH (AI (Bl zq q4)),AH (AI (Bl zr q4)),j!]
  have zt:S4 a1≠none:=by rw[qf a1 zp jp];exact zp
  have zu:S4 a2≠none:=by rw[qf a2 zq jq];exact zq
  have zw:S4 a3≠none:=by rw[qf a3 zr o3];exact zr
  have zx:S4 a4≠none:=lo zi;have g5:rl a5=.writ:=by show(if a5=o then _ else _)=_;rw[AH o5,AH (AI (Bl zt q5)),AH (AI (Bl zu q5)),AH (AI (Bl zw q5)),AH (AI (Bl zx q5)),j!]
  have UL:S5 a1≠none:=by rw[nz a1 zt jp];exact zt
  have UM:S5 a2≠none:=by rw[nz a2 zu jq];exact zu
  have UN:S5 a3≠none:=by rw[nz a3 zw o3];exact zw
  have UO:S5 a4≠none:=by rw[nz a4 zx o4];exact zx
  have UP:S5 a5≠none:=lo zj;have g6:rl a6=.hid:=by show(if a6=o then _ else _)=_;rw[AH o6,AH (AI (Bl UL q6)),AH (AI (Bl UM q6)),AH (AI (Bl UN q6)),AH (AI (Bl UO q6)),AH (AI (Bl UP q6)),j!]
  have NW:∀c,S2 c≠none->c≠o->c≠a3/\c≠a4/\c≠a5/\c≠a6:=λc Y co=>by
   have s3:S3 c≠none:=by rw[ug c Y co];exact Y
   have s4:S4 c≠none:=by rw[qf c s3 co];exact s3
   have s5:S5 c≠none:=by rw[nz c s4 co];exact s4
   exact⟨Bl Y q3,Bl s3 q4,Bl s4 q5,Bl s5 q6⟩
  have u1:∀c,N1 c≠none->c≠o->c≠a2->S2 c≠none:=λc hc B Y=>by rw[uf c B Y,l2 c hc];exact hc
  have u2:∀c,N2 c≠none->c≠o->c≠a2->S2 c≠none:=λc hc B Y=>by rw[uf c B Y];exact hc
  have zy:Cg S1 a2 E! a1≠none:=by rw[mup_ne (AI NV)];exact lo qc
  have zz:=nr a1 zy;have z6:=ny a1 (by rw[l1 a1 zy];exact zy);have z7:∀c,N1 c≠none->c≠o->c≠a1->c≠a2->rl c=if c=r1 then .rO root else if c=f1 then .rF root else if c=p1 then .rP root else if c=r2 then .rO binn else if c=f2 then .rF binn else if c=p2 then .rP binn else .oth:=λc hc h0 B Y=>by
   obtain⟨x3,x4,x5,x6⟩:=NW c (u1 c hc h0 Y) h0;show"#*"
  have z8:∀c,N2 c≠none->c≠o->c≠a1->c≠a2->rl c=if c=r1 then .rO root else if c=f1 then .rF root else if c=p1 then .rP root else if c=r2 then .rO binn else if c=f2 then .rF binn else if c=p2 then .rP binn else .oth:=λc hc h0 B Y=>by
   obtain⟨x3,x4,x5,x6⟩:=NW c (u2 c hc h0 Y) h0;show"#*"
  have h7:rl r1=.rO root:=by rw[z7 r1 v1.1 (AI qg.1) (AI zz.1) (AI qh.1),j!]
  have h8:rl f1=.rF root:=by rw[z7 f1 v1.2.1 (AI qg.2.1) (AI zz.2.1) (AI qh.2.1),AH (AI R1.rne.1),j!]
  have h9:rl p1=.rP root:=by rw[z7 p1 v1.2.2 (AI qg.2.2) (AI zz.2.2) (AI qh.2.2),AH (AI R1.rne.2),AH (AI R1.ne),j!]
  have b1:=ny r1 v1.1;have b2:=ny f1 v1.2.1;have b3:=ny p1 v1.2.2;have UQ:rl r2=.rO binn:=by rw[z8 r2 v2.1 (AI mo.1) (AI z6.1) (AI ma.1),AH (AI b1.1),AH (AI b2.1),AH (AI b3.1),j!]
  have UR:rl f2=.rF binn:=by rw[z8 f2 v2.2.1 (AI mo.2.1) (AI z6.2.1) (AI ma.2.1),AH (AI b1.2.1),AH (AI b2.2.1),AH (AI b3.2.1),AH (AI R2.rne.1),j!]
  have US:rl p2=.rP binn:=by rw[z8 p2 v2.2.2 (AI mo.2.2) (AI z6.2.2) (AI ma.2.2),AH (AI b1.2.2),AH (AI b2.2.2),AH (AI b3.2.2),AH (AI R2.rne.2),AH (AI R2.ne),j!]
  have kr:kget oY! root=some (.fn r1):=by show x3!=_;rw[j!]
  have kb:kget oY! binn=some (.fn r2):=by
   show x3_;rw[AH a6c,j!]
  have UT:kget oW! root=some .non:=by show x3!=_;rw[j!]
  have UU:kget oW! binn=some .non:=by
   show x3_;rw[AH a6c,j!]
  exact{
      ob:=zk,d1:=⟨_,F1⟩,d2:=⟨_,F2⟩,d3:=⟨_,F3⟩,d4:=⟨_,F4⟩,d5:=⟨_,F5⟩,d6:=⟨_,F6⟩
      ro:=g0,r1:=g1,r2:=g2,r3:=g3,r4:=g4,r5:=g5,r6:=g6
      p0:=⟨UT,UU⟩
      pr:=λi p h=>xQ_
      row:=λx L=>by
       rcases L with L|rfl|rfl
       .simp[W0]at L
       .exact⟨r1,f1,p1,kr,Q1,h7,h8,h9⟩
       .exact⟨r2,f2,p2,kb,Q2,UQ,UR,US⟩
      rown:=λx L=>by
       unfold Lb at L;rw[GN,GN]at L;show(if root=x then _ else(if binn=x then _ else _))=_;rw[AH (AI L.2.1),AH (AI L.2.2)];rfl
      txt:=λx L=>fr!
      txtn:=λx _=>rfl
      num:=λx L=>fr!
      wr:=λx L=>fr!
      hi:=λx L=>fr!
      hk:=λs hs=>(by simp[kget]at hs)
      l1:=by simp,l2:=by simp,l3:=by simp,l4:=by simp,l5:=by simp,l6:=by simp,lr:=by simp[W0],lt:=λx L=>fr!
      live:=λc hc=>by
       by_cases y0:c=o
       .rw[y0];exact lo zk
       by_cases tu:c=a1
       .rw[tu];exact lo F1
       by_cases tz:c=a2
       .rw[tz];exact lo F2
       by_cases j8:c=a3
       .rw[j8];exact lo F3
       by_cases j9:c=a4
       .rw[j9];exact lo F4
       by_cases nh:c=a5
       .rw[nh];exact lo F5
       by_cases t3:c=a6
       .rw[t3];exact lo F6
       by_cases t6:c=r1
       .rw[t6];exact Q1.live.1
       by_cases NX:c=f1
       .rw[NX];exact Q1.live.2.1
       by_cases NY:c=p1
       .rw[NY];exact Q1.live.2.2
       by_cases NZ:c=r2
       .rw[NZ];exact Q2.live.1
       by_cases N':c=f2
       .rw[N'];exact Q2.live.2.1
       by_cases OA:c=p2
       .rw[OA];exact Q2.live.2.2
       exfalso;apply hc;show o0_=_;rw[AH y0,AH tu,AH tz,AH j8,AH j9,AH nh,AH t3,AH t6,AH NX,AH NY,AH NZ,AH N',AH OA]}
 .obtain⟨d1,d2,d3,d4,d5,d6,d7,d8,d9,z9⟩:=UJ b J;refine⟨d1,?_⟩;show(if b=o then _ else _)=_;rw[AH d2,AH d3,AH d4,AH d5,AH d6,AH d7,AH d8,AH d9.1,AH d9.2.1,AH d9.2.2,AH z9.1,AH z9.2.1,AH z9.2.2]
end
theorem b5f{α β:Type}{f:k8_}:∀{l:N_},(hN_).Nodup->∀{x y:α},x∈l->y∈l->f x=f y->x=y
 |[],_,_,_,h,_,_=>by cases h
 |a::l,nd,x,y,L,hy,e=>by
  rw[AK,AV]at nd;rcases AD.mp L with B|B<;>rcases AD.mp hy with Y|Y
  .rw[B,Y]
  .exact absurd (by rw[<-B,e];exact AO Y) nd.1
  .exact absurd (by rw[<-Y,<-e];exact AO B) nd.1
  .exact b5f nd.2 B Y e
inductive Run:OW->List Op->OW->Prop
 |nil {W:OW}:Run W [] W
 |cons {W W1 W2:OW} {o:Op} {os:l!}:wI W o.nm o.d W1->Run W1 os W2->Run W hs_ W2
noncomputable def oB(wd:h_)(os:l!):List Op:=os.filter λo=>decide (Nq o.d=none/\¬kget wd o.nm=some b4!)
section
variable{t:Bo}{M:Mh}{R:D->Mh->Prop}
noncomputable def plB(t:Bo):WS:=Ap eH_ r0_
theorem a6n{e0:Nat}{ops:l!}(hq:∀x∈ops,kget kq x.nm≠none↔Undn wd x):∀(os:l!) (x1:D) (y z:av_) (M:Mh) (rl:bQ!) (W W':OW) (pre:b!) (hb:Nat) (R:m_),
  (∀x∈os,x∈ops/\DG x.d)->x6!->(o2!).Nodup->Er t M o rl W hb->WOk W pre->Run W o2_ W'->hb+20*ax_<3900->M q=some (.dct kq e0)->rl q=.oth->
  (∀M' ae y' z',Er t M' o ae W' (hb+20*ax_)->x6_->Fr M rl M' ae->R (.nx [P_,C!,aX!,y',z']) M')->
  Kr z! Q_ (plB t) J_ [P_,C!,aX!,y,z] M R
 |[],x1,y,z,M,rl,W,W',pre,hb,R,_,_,_,hO,w,hr,_,_,_,hR=>by
  cases hr;exact⟨trivial,hR M rl y z hO ⟨pre,w⟩ .refl⟩
 |x::os,x1,y,z,M,rl,W,W',pre,hb,R,hd,hp,nd,hO,w,hr,hB,nv,jo,hR=>by
  refine aU_;show plB t o3! M _;show Ap (Ba 4 _) _ o3! M _;obtain⟨L,jj⟩:=hd x AM;simp only[AR]at hB hR;rw[AK,AV]at nd;have es:Ji G_ Cb cX! o3!=some x.nm:=b2h x;simp only[Ap,Ba,wl,es];obtain⟨kn,f7⟩:=a3n x;have ui:Qj true M x.nm bB!=some (.bl (!(kget kq x.nm).isSome)):=by simp[Qj,nv,f7]
  have f4:Aa 4 em!=some x.nm:=rfl;have uj:Aa 2 em!=some bB!:=rfl;have UV:Aa 1 em!=some ae_:=rfl;have UW:f2 Aq G_ as! em!=some x.d:=by
   show Aq x.v aA_=_;simp[Op.v,Aq,Gm,Iw]
  show Bj rY! _ _ em! M _;simp only[Bj,wT,w2,wl,f4,uj,ui];have hu:=hq x L;have rest:∀(M1:Mh) (df:bQ!) (W1:OW) (we:b!),Er t M1 o df W1 bk!->WOk W1 we->(∀y∈os,y.nm∉we)->Run W1 o2_ W'->Fr M rl M1 df->Kr z! Q_ (plB t) J_ em! M1 R:=λM1 df W1 we B Y h3 h4 h5=>
   a6n (o:=o) (q:=q) (kq:=kq) (wd:=wd) (e0:=e0) hq os x1 o3_ (some x.nm) M1 df W1 W' we bk! R o4! h3 nd.2 B Y h4 a! ((x7_).1.trans nv) (x7_).2 (λM' ae y' z' g1 g2 g3=>hR M' ae y' z' (by rw[x8!];exact g1) g2 (h5.trans g3))
  by_cases c:kget kq x.nm=none
  .rw[c,gM!];have hc:∀(K:u_),aH t [a8_,x.nm,x.d] M K->Ay 3 (aH t) rZ_ em! M K:=λK h=>by
    simp only[Ay,Ac,Ak,wl,UV,f4,UW];exact ca_
   refine Ol (hc _ ?_);rcases jG jj with⟨k,a,e,hk,_,wf⟩|⟨k,r,e,_,_,wf⟩
   .have:oB wd ht!=oB wd os:=by unfold oB;rw[CL (by simp[wf])]
    rw[this]at hr;rw[e];exact c0p hk (rest M rl W pre nJ! w o4_ hr .refl)
   .have b7:¬kget wd x.nm=some b4!:=λz=>absurd c (hu.mpr ⟨wf,z⟩);have:oB wd ht!=x::oB wd os:=by unfold oB;rw[CK (by simp[wf,b7])]
    rw[this]at hr;cases hr with
    |cons hs hr=>
     have w1:=b2e hs w kp_;refine c0o hO w kp_ hs a! λM1 df B Y=>rest M1 df _ _ B w1 x8_ hr Y;rcases AQ.mp z with z|z
     .exact hp y d2! z
     .rw[AT]at z;exact nd.1 x9!
  .have hU:=hu.mp c;obtain⟨v,hv⟩:=Option.ne_none_iff_exists'.mp c;rw[hv,T!];unfold Di;have:oB wd ht!=oB wd os:=by unfold oB;rw[CL (by simp[hU.1,hU.2])]
   rw[this]at hr;exact rest M rl W pre nJ! w o4_ hr .refl
theorem Er.live{rl:bQ!}{hb:Nat}(h:au!)(J:rl b≠.oth):M b≠none:=by obtain⟨_,_,_,_,_,_,_,_,_,_,_,_,hA⟩:=h;exact hA.live b J
theorem Er.keep{M':Mh}{rl:bQ!}{hb:Nat}(hO:au!)(k:x9_):Er t M' o rl W hb:=by
 obtain⟨a1,a2,a3,a4,a5,a6,k1,k2,k3,k4,k5,k6,hA⟩:=hO;refine⟨a1,a2,a3,a4,a5,a6,k1,k2,k3,k4,k5,k6,{hA with ob:=?_,d1:=?_,d2:=?_,d3:=?_,d4:=?_,d5:=?_,d6:=?_,row:=?_,txt:=?_,num:=?_,live:=?_}⟩
 .rw[k o O_];exact hA.ob
 .rw[k a1 bQ_];exact hA.d1
 .rw[k a2 au_];exact hA.d2
 .rw[k a3 aT_];exact hA.d3
 .rw[k a4 aU!];exact hA.d4
 .rw[k a5 aL!];exact hA.d5
 .rw[k a6 av!];exact hA.d6
 .intro x L;obtain⟨r',f',p',v1,v2,v3,v4,v5⟩:=hA.row x L;exact ya!
 .intro x L;obtain⟨r',f',p',v1,v2,v3,v4,v5⟩:=hA.txt x L;exact ya!
 .intro x L;obtain⟨q',v1,v2,v3⟩:=hA.num x L;exact⟨q',v1,(k _ bD!).trans v2,v3⟩
 .intro b J;rw[k b J];show"#."
theorem a9m{ops:l!}(nd:ej!)(nn:yb!)(hl:dn!)(hd:hl_)(hr:Run W0 (oB hm! aW!) W')
  (hR:∀o M' ae,M o=none->Er t M' o ae W' 1500->yb_->(∀b,M b≠none->M' b=M b/\ae b=.oth)->R ae_ M'):Ql t cj_ M R:=by
 refine j_;show Ap rX_ _ oS_ M _;simp only[Ap,Ba];refine uA λo rl M1 ho hO fr=>?_;show(Ay 1 Sl aQ!) yc! M1 _;have hc:∀(K:u_),Sl cj_ M1 K->Ay 1 Sl aQ! yc! M1 K:=λK h=>ca_;refine hc _ (a8o nd hl hd λq M2 ep kq hq fm ue og=>?_);have hi:Hk ip! yc_=some fn!:=jF (Wy nd hl);show Fn (Qt _) _ (plB t) yc_ M2 _;simp only[Fn,Qt,hi,Ie];have hp:(aW!).Perm ops:=Ew ops;have jo:rl q=.oth:=by
  by_cases z:rl q=.oth
  .exact z
  .obtain⟨_,_,_,_,_,_,_,_,_,_,_,_,hA⟩:=hO;exact absurd hq (hA.live q z)
 have UX:Er t M2 o rl W0 2:=hO.keep λc hc=>og c (hO.live hc);have v7:∀x∈ops,kget kq x.nm≠none↔Undn hm! x:=λx L=>by
  rw[ue];show"!J"
  .rintro⟨y,hy,e,hu⟩;have:y=x:=b5f nn hy L e;rw[<-this];exact hu
  .exact λh=>⟨x,L,rfl,h⟩
 refine a6n (t:=t) (wd:=oT!) (e0:=ep) (ops:=ops) v7 aW! hm_ none none M2 rl W0 W' [] 2 _ (λx L=>⟨hp.mem_iff.mp L,hd x yd!⟩) yd_ ye! UX c4s hr kq_ fm jo λM' ae y' z' g1 g2 g3=>?_;refine hR o M' ae ho (g1.mono kq_) g2 λb J=>?_;obtain⟨e1,e2⟩:=fr b J;have e3:=og b ns_;have g4:=g3 b ye_ e2;exact⟨by rw[g4.1,e3,e1],g4.2⟩
theorem b6n(o:Op):∀{l:l!},fS Op.key l->∃u v,l=u++v/\nA Op.key o l=u++o::v/\(∀x∈u,Vb o.key x.key=false)/\∀x∈v,Vb o.key x.key=true
 |[],_=>⟨[],[],rfl,rfl,I!,I!⟩
 |y::l,h=>by
  unfold fS at h;rw[CS]at h;unfold nA;cases e:Vb o.key y.key with
  |true=>
   rw[j!];refine⟨[],y::l,rfl,rfl,I!,a7!⟩;rcases AD.mp L with rfl|L
   .exact e
   .exact Si e (h.1 x L)
  |false=>
   rw[T!];obtain⟨u,v,e1,e2,e3,e4⟩:=b6n o h.2;refine⟨y::u,v,by rw[e1];rfl,by rw[e2];rfl,a7!,e4⟩;rcases AD.mp L with rfl|L
   .exact e
   .exact e3 x L
theorem d5s(a b c d:Int):HT.lexLt ai! [c,d]=Vb Y! (c,d):=by
 rw[EH,jD,HT.lexLt_cons];by_cases h:a=c
 .rw[AN h,HT.lexLt_cons];by_cases h':b=d
  .rw[AN h'];simp[HT.lexLt_nil_nil];omega
  .rw[AH h',BM];show"#0";omega
 .rw[AH h,BM];show"#0";omega
noncomputable def orV(l:l!)(o:Op):Nat->Bool
 |0=>false
 |j+1=>match l[j]? with|some f=>Vb o.key f.key|none=>false
noncomputable def orT:Ag->Option Bool:=Fx s7! ta_
theorem a6v{l:l!}{o:Op}{k:Nat}(hk:k<=ai_):orT [N!,yf_,ag_,ks!]=some (orV l o k):=by
 cases k with
 |zero=>simp[orT,Fx,fT,f2,Aa,fC,Wz,Et,orV]
 |succ j=>
  have hj:j<ai_:=hk;have e1:l[j]?=some l[j]:=BA hj;have e2:Gm (l.map Op.v) o6!=some (cl!).v:=by
   show"#%";simp[hj]
  have e3:Xf 1 iN_ o7!=some (cl!).v:=by
   have:yg_ - 1=(j:Nat):=by omega
   simp[Xf,f2,Aa,fC,Hh,Et,this,e2]
  have e4:Aq (cl!).v bv!=some (.int (cl!).tm):=by simp[Op.v,Aq,Gm,Iw]
  have e5:Aq (cl!).v I_=some (.int (cl!).h):=by simp[Op.v,Aq,Gm,Iw]
  have e6:Aq o.v bv!=some en!:=by simp[Op.v,Aq,Gm,Iw]
  have e7:Aq o.v I_=some bo_:=by simp[Op.v,Aq,Gm,Iw]
  have e8:gtT (.tup [.int (cl!).tm,.int (cl!).h]) xu_=some (.bl (Vb o.key (cl!).key)):=by
   simp[gtT,rE,d5s,Op.key]
  have e9:Wz o6_ I_=some C_:=by simp[Wz,Et]
  have f3:Aa 3 o7!=some o6_:=rfl;have uj:Aa 2 o7!=some o.v:=rfl;simp only[orT,Fx,fT,f2,f3,fC,EZ,e9,Cf,Ad,Ao,e3,e4,e5,uj,e6,e7,CF,AR,EW,show(0+1+1:Nat)<=1000 by omega,e8,orV,e1]
theorem yO{o:Op}{u v:l!}(B:∀x∈u,Vb o.key x.key=false)(Y:∀x∈v,Vb o.key x.key=true)(R:m_)(hR:R (.nx ks_) M):
  ∀(m:Nat),m<=v.length->∃n,Ga (Fj orT) mJ_ n [N!,o8_,ag_,some (.int pa!)] M R
 |0,hm=>by
  refine e5!;have et:=a6v (x0:=x0) (o:=o) (l:=u++v) (k:=bV_) d_;have ef:orV bi_ o bV_=false:=by
   cases hu:bV_ with
   |zero=>rfl
   |succ j=>
    have:bi_[j]?=some (u[j]' a!):=by rw[CV a!,BA a!]
    simp only[orV,this];exact B _ hu_
  rw[ef]at et;simp only[Ga,Fj,Nat.add_zero,et];exact hR
 |m+1,hm=>by
  obtain⟨n,hn⟩:=yO B Y R hR m a!;refine⟨n+1,?_⟩;have et:=a6v (x0:=x0) (o:=o) (l:=u++v) (k:=bV_+(m+1)) b3_;have ef:orV bi_ o (bV_+(m+1))=true:=by
   show orV bi_ o (bV_+m+1)=true;have:bi_[bV_+m]?=some (v[m]' a!):=by rw[CD a!,show u.length+m - u.length=m by omega,BA a!]
   simp only[orV,this];exact Y _ hu_
  rw[ef]at et;have es:f2 Hh G_ v_ [N!,o8_,ag_,some (.int pb_)]=some (.int pa!):=by
   have:pb_ - 1=pa!:=by omega
   show Hh (.int pb_) aZ_=_;simp only[Hh,Et,this]
  simp only[Ga,Fj,et,CF,Ba,wl,es];exact hn
noncomputable def orB:WS:=Ap s6_ (Ap (Kf (Fj orT) mJ_) tc!)
theorem a6w:∀(os:l!) (x0:D) (y z:av_) (acc:l!) (R:m_),fS Op.key acc->((acc++os).map Op.key).Nodup->cL!+ax_<1000->
  (∀c8 y' z',fS Op.key c8->c8.Perm (acc++os)->R (.nx [N!,some (.lst (c8.map Op.v)),y',z']) M)->Kr a3_ Q_ orB J_ [N!,fx!,y,z] M R
 |[],x0,y,z,acc,R,hs,nd,hl,hR=>⟨trivial,hR acc y z hs d_⟩
 |o::os,x0,y,z,acc,R,hs,nd,hl,hR=>by
  refine aU_;show orB kt_ M _;show Ap (Ba 3 _) _ kt_ M _;obtain⟨u,v,e1,e2,e3,e4⟩:=b6n o hs;simp only[AR]at hl;have el:cS ic_ kt_=some pd!:=by
   have:f1 Dd cZ_ kt_=some pd!:=by
    show Dd [.lst ym!]=_;simp[Dd]
   unfold cS;rw[this];rfl
  simp only[Ap,Ba,wl,el];show Kf _ _ [N!,fx!,ag_,some pd!] M _;have al:cL!=bV_+v.length:=by rw[e1,AY]
  rw[al,e1];refine yO e3 e4 _ ?_ v.length x_;have ei:b2u 1 G_ y! ks_=some (.nx [N!,some (.lst ((ku!).map Op.v)),ag_,some o9_]):=by
   have:(bi_).length<big:=by unfold big;rw[AY];omega
   have e3:Aa 3 ks_=some o9_:=rfl;have e2:Aa 2 ks_=some o.v:=rfl;unfold b2u;rw[e3,e2];show(if 0<=(o9!:Int)/\(o9!:Int).toNat<=(o8!).length/\(o8!).length<big then _ else none)=_;rw[AN ⟨t_,I!,by rw[AW];exact this⟩];simp
  simp only[wlS,ei,Ie];have hp:(ku!).Perm (acc++[o]):=by rw[e1];simpa using(List.perm_middle (a:=o) (l₁:=u) (l₂:=v)).trans (List.perm_append_comm (l₁:=[o]) (l₂:=u++v))
  have br:fS Op.key ku!:=by
   rw[<-e2];refine mZ hs λy hy=>?_;rw[BK,BO]at nd;exact λz=>nd.2.2 _ (AO hy) o.key d_ z.symm
  have fq:((u++o::v++os).map Op.key).Nodup:=by
   have:(u++o::v++os).Perm (acc++o::os):=by
    have:=hp.append_right os;simpa using this
   exact(this.map _).nodup_iff.mpr nd
  exact a6w os x0 _ _ ku! R br fq (by have:=hp.length_eq;simp at this;simp;omega) λc8 y' z' B Y=>hR c8 y' z' B (Y.trans (by have:=hp.append_right os;simpa using this))
theorem lM{ops:l!}(nd:ej!)(hl:dn!)(hR:R (.lst fn!) M):Ic cj_ M R:=by
 refine j_;show Ap ga_ (Ap (Fn iq! a3_ orB) bJ!) pe! M _;have e1:Vn 1 Ao pe!=some (.nx yo_):=by simp[Vn,Ao]
 have e2:Hk i_ yo_=some ei_:=rfl;simp only[Ap,wlS,e1,Ie,Fn,Qt,e2];refine a6w ops _ none none [] _ (jh_) (by simpa using nd) b3_ λc8 y' z' B Y=>?_;have:c8=Re ops:=bC B (Ry nd) (by simpa using Y.trans (by simpa using(Ew ops).symm));rw[this];exact hR
theorem zY{neg:Bool}:Qj neg M U! n7_=some (.bl (if neg then ! n8! else n8!)):=by show Qj.inS neg M U! n7_=_;simp[Qj.inS,sO,Ct,Dw,Ot,Gz,vP]
noncomputable def luB:WS:=Bj te_ tg! Di
theorem d2r{o:Op}(ho:DG o.d):∃k r,o.d=.tup dj!/\(Nq o.d=none->hj_=false/\(k=="redo")=false)/\(∀u,Nq o.d=some u->r=[u.2]/\k=u.1/\xu!/\NameG u.2):=by
 rcases jG ho with⟨k,a,e,hk,ip,hu⟩|⟨k,r,e,B,Y,hu⟩
 .exact⟨k,[a],e,(λz=>by rw[z]at hu;cases hu),(λu uk=>by rw[hu]at uk;cases uk;exact⟨rfl,rfl,hk,ip⟩)⟩
 .exact⟨k,r,e,(λ_=>pf!),(λu uk=>by rw[hu]at uk;cases uk)⟩
theorem b6h{o:Op}(e:o.d=.tup dj!):oK_=some U!:=by
 have e3:Aq o.v aA_=some o.d:=by simp[Op.v,Aq,Gm,Iw]
 rw[e3,e];show Gm (D.str k::r) 0=_;show"!c"
theorem a5i{k:Str}(hk:xh_):kw!=true:=by
 rcases hk with rfl|rfl
 .rw[xx_];rfl
 .rw[xy!];simp
theorem uE:∀(os:l!) (x1:D) (y:av_) (acc:h_) (ep:Nat) (M:Mh) (R:m_),oM!->cL!+ax_<1000->M p=some oM_->
  (∀M' a9 y',M' p=some (.dct (fX oL! os acc) a9)->hk_->R xA! M')->
  Kr a3_ Q_ luB J_ oL_ M R
 |[],x1,y,acc,ep,M,R,_,_,hp,hR=>xB!
 |o::os,x1,y,acc,ep,M,R,hd,hl,hp,hR=>by
  refine aU_;show luB bU_ M _;show Bj _ _ _ bU_ M _;have ho:=hd o AM;simp only[AR]at hl;obtain⟨k,r,e,hn,hs⟩:=d2r ho;have i0:f2 Aq a3! F_ bU_=some U!:=b6h e;simp only[Bj,wT,w2,wl,i0,fC,zY];cases hu:Nq o.d with
  |none=>
   obtain⟨B,Y⟩:=hn hu;have:kw!=false:=by rw[yr!,yr_,B,Y];rfl
   rw[this];exact uE (p:=p) os x1 ej_ acc ep M R hl! a! hp xD!
  |some u=>
   obtain⟨g1,g2,hk,ip⟩:=hs u hu;rw[a5i hk];obtain⟨ka,li⟩:=qR ip;have i1:f2 Aq a3! v_ bU_=some u.2:=by
    have e3:Aq o.v aA_=some o.d:=by simp[Op.v,Aq,Gm,Iw]
    show xB_;rw[e3,e,g1];show Gm [D.str k,u.2] 1=_;simp[Gm,Iw]
   have i2:f2 Bu gk! io_ bU_=some fn_:=by
    show(f2 Aq a3! F_ bU_).bind (λx=>Bu x b4!)=_;rw[i0];exact Nn k _
   have gw:=Ob (y:=u.2) (v:=.bl hj_) hp li g7_;have:=uE (p:=p) os x1 ej_ ys! ys_ (Cg M p (.dct ys! ys_)) R hl! (by have:=kput_len acc u.2 fn_;omega) mup_same (λM' a9 y' B Y=>hR M' a9 y' (by
    unfold fX;rw[hu];obtain⟨u1,u2⟩:=u;dsimp only at g2 B ⊢;rw[<-g2];exact B) λb J=>(Y b J).trans kg_)
   rw[gM!];simp only[Ei,wl,i1,i2,d2v,gw,Ie];exact this
theorem a3v{ops:l!}(nd:ej!)(hl:dn!)(hd:hl_)
  (hR:∀p M' ep,M p=none->M' p=some (.dct (fX oL! aW! []) ep)->hk_->R D_ M'):Sq cj_ M R:=by
 refine j_;show Ap kl! (Ap (Fn eS! a3_ luB) bJ!) xF_ M _;intro p hp;have bq:(aW!).Perm ops:=Ew ops;show Ap (Fn eS! _ _) _ kh! cK_ _;have hc:∀(K:u_),Ic cj_ cK_ K->Ay 1 Ic aQ! kh! cK_ K:=λK h=>ca_;simp only[Ap,Fn,Em];refine hc _ (lM nd hl ?_);exact uE (p:=p) aW! hm_ none [] 0 cK_ _ xG! xG_ mup_same xH!
end
noncomputable def Cp(q:D×D):D:=.tup [q.1,q.2]
noncomputable def Cm(q:e2!):D:=.tup yt_
inductive LR
 |w|wt|wn|q (x:D)|oth
noncomputable def k3(rows wt wn:D):List ay!:=[(.str "rows",rows),(.str "texts",wt),(.str "numbers",wn)]
section
variable{a b c v:D}
theorem c3s:¬(D.str c9!=D.str d0!):=λz=>absurd pg_ r!
theorem c3t:¬(D.str c9!=D.str e3!):=λz=>absurd pg_ r!
theorem c3k:¬(D.str d0!=D.str e3!):=λz=>absurd pg_ r!
theorem k3r:kget hw_ dT!=some a:=by show kw_=_;rw[j!]
theorem k3t:kget hw_ iS!=some b:=by show yu!=_;rw[AH c3s,j!]
theorem k3n:kget hw_ mQ_=some c:=by show(if _ then _ else yu!)=_;rw[AH c3t,AH c3k,j!]
theorem k3p:Bk hw_ dT! v=k3 v b c:=by show kw_=_;rw[j!];rfl
end
theorem Ws{g:D->D}:∀{its:b!} {x:D},kget kx! x=if x∈its then some (g x)else none
 |[],x=>by simp[kget]
 |i::its,x=>by
  rw[AK];unfold kget;by_cases e:i=x
  .subst e;simp
  .rw[AH e,Ws];simp[AI e]
theorem zG{g:D->D}{v:D}:∀{its:b!},its.Nodup->x∈its->Bk kx! x v=its.map λi=>(i,if i=x then v else g i)
 |[],_,h=>by cases h
 |i::its,nd,h=>by
  rw[AV]at nd;rw[AK,AK];unfold Bk;by_cases e:i=x
  .subst e;rw[j!];simp only[CF];congr 1;apply CW;intro j hj;rw[AH λz:j=i=>nd.1 (z▸hj)]
  .rw[AH e];simp only[e,BW];rw[zG nd.2 ((AD.mp h).resolve_left (AI e))]
theorem qX{g:D->D}{v:D}{its:b!}(h:x∉its):Bk kx! x v=kx!++[(x,v)]:=Qg (by rw[CB];simpa using h)
structure a5b(M:Mh)(w:Addr)(rl:dq_)(W:OW)(wt wn:Addr)(qa:D->Addr):Prop where
 mw:∃e,M w=some (.dct hx_ e)
 mt:∃e,M wt=some (.dct (W.its.map λi=>(i,.lst kx_)) e)
 mn:∃e,M wn=some (.dct (W.its.map λi=>(i,.fn fz!)) e)
 mq:∀i∈W.its,M fz!=some (.lst jp_)/\rl fz!=.q i
 rw_:rl w=.w
 rt:rl wt=.wt
 rn:rl wn=.wn
 live:∀b,rl b≠.oth->M b≠none
noncomputable def Dt(M:Mh)(w:Addr)(rl:dq_)(W:OW):Prop:=∃wt wn qa,a5b M w rl W wt wn qa
noncomputable def wL(M:Mh)(rl:dq_)(M':Mh)(ae:dq_):Prop:=∀b,M b≠none->rl b=.oth->M' b=M b/\ae b=.oth
theorem wL.refl{M:Mh}{rl:dq_}:wL M rl M rl:=λb _ h=>ca_
theorem wL.trans{M M1 M2:Mh}{rl df pz:dq_}(B:wL M rl M1 df)(Y:wL M1 df M2 pz):wL M rl M2 pz:=λb J hr=>by
 show"!s"
section
variable{M:Mh}{R:D->Mh->Prop}{w:Addr}{rl:Addr->LR}{W:OW}{ρ:Ag}
theorem Nk{ep:Nat}(h:bS_)(hk:ck!):Dz M D_ y=kget kvs y:=by simp[Dz,h,hk]
theorem ixw{ep:Nat}{v:D}(h0:Aa 0 ρ=some D_)(h:bS_)(hv:kget kvs aw_=some v)(K:u_):w2 Dz i! (wl (fC aw_)) ρ M K=K v M:=by have:Dz M D_ aw_=some v:=(Nk (k:=some (.inl (.inr s))) h rfl).trans hv;simp only[w2,wl,h0,fC,this]
theorem jE{q:D×D}:Aq eo_ I_=some q.1:=by simp[Cp,Aq,Gm,Iw]
theorem vD{q:D×D}:Aq eo_ aZ_=some q.2:=by simp[Cp,Aq,Gm,Iw]
theorem Tf{W:OW}(w:El W):∀q∈W.rows,Pg q.1/\Sd q.2/\Lb W q.2:=λq hq=>⟨w.nm _ ((w.ri q.1).mp (AO hq)),vH w (w.rp q.1 q.2 hq),w.rp q.1 q.2 hq⟩
theorem wK(h:X_)(wi:El W)(L:Sd x)(hl:fA_)(hR:R d1! M):Oj [cn!,x] M R:=by
 show"!y";obtain⟨e,hw⟩:=hA.mw;refine j_;show Bz pi! kA! M _;simp only[Bz,Ea,Em,ixw (ρ:=kA!) rfl hw k3r];refine dm_;refine Ft (λd=>match d with|.tup [_,p]=>decide (p=x)|_=>false) (λd=>match d with|.tup [i,_]=>i|_=>.non) trivial _ _ bU! ?_
 .show"!>";show"#8";refine pi_
  .have e1:fT tR! cJ_=some yx!:=by
    have:f2 Bu dD_ w! cJ_=some (.bl yx!):=by
     show(Aq eo_ aZ_).bind yx_=_;rw[vD];exact Yg Y L
    show"!8"
   simp only[Fj,e1];exact hK
  .have e1:f2 Aq i_ F_ cJ_=some q.1:=jE;simp only[wl,e1];exact hK
 .have e2:(((fy!).filter λd=>match d with|.tup [_,p]=>decide (p=x)|_=>false).map λd=>match d with|.tup [i,_]=>i|_=>.non)=chl W.rows x:=by
   unfold chl;rw[GC,CB];rfl
  rw[e2];exact hR
end
theorem b0v(ha:Sd a)(J:Sd b)(hc:Sd c)(hd:Sd d):Bu hy_ (.tup [c,d])=some (.bl (decide (a=c/\b=d))):=by
 unfold Bu;have d1:=Rq ha;have d2:=Rq J;have e:Jb hy_ (.tup [c,d])=decide (a=c/\b=d):=by
  simp only[Jb,Qr,Xg ha hc,Xg J hd,Bool.and_true];by_cases B:a=c<;>by_cases Y:b=d<;>simp[B,Y]
 rw[e];simp only[Ct,Dw,Ig ha,Ig J,Ig hc,Ig hd,Ot,Gz,Bool.and_true,Bool.true_and];rw[d1_]
theorem b7t{xs:b!}{k:Nat}(h:k<=k_):Cy L! none kA_=some (.lst (xs.take k)):=by
 have e:HT.sIx xs.length xs.length kA_=k:=by rw[HT.sIx_nat];omega
 simp only[Cy];congr 2;unfold Ha;rw[e,HT.sIx_none];simp
theorem a0s{xs:b!}{k:Nat}(h:k<=k_):Cy L! kA_ none=some (.lst (xs.drop k)):=by
 simp only[Cy];congr 2;have e:HT.sIx xs.length 0 kA_=k:=by rw[HT.sIx_nat];omega
 have e2:HT.sIx xs.length xs.length none=k_:=rfl;unfold Ha;rw[e,e2,zQ_]
section
variable{M:Mh}{R:D->Mh->Prop}{w:Addr}{rl:Addr->LR}{W:OW}{ρ:Ag}
noncomputable def hgT:Ag->Option Bool:=Fx ti_ tj_
theorem c2a{rs:h_}{k:Nat}(hk:k<=ap!)(hl:ap!<5000)(iw:yy_)(hp:Sd p):hgT bq_=some yz_:=by
 have el:f1 Dd gg! bq_=some kB!:=by
  show yA!;simp[Dd]
 have e5:Aa 5 bq_=some fw!:=rfl;have e2:Aa 2 bq_=some p:=rfl;by_cases c:k<ap!
 .have e1:rs[k]?=some rs[k]:=BA c;have ea:Gm ep! bb_=some kC!:=by
   show"#%";simp[c]
  have e3:f2 Aq L_ H! bq_=some kC!:=ea;have e4:Sj fw! kB!=some C_:=by simp[Sj,Et];exact c
  have e6:Fw (dr_).2 p=some yA_:=tY (iw _ hu_).2 hp;have e7:f2 Fw tj! y! bq_=some yA_:=by
   show((f2 Aq L_ H! bq_).bind λx=>Aq x aZ_).bind (λz=>Fw z p)=_;rw[e3];show(Aq kC! aZ_).bind _=_;rw[vD];exact e6
  have e8:f2 Sj H! eS_ bq_=some C_:=by
   show yC!;rw[el];exact e4
  simp only[hgT,Fx,fT,e8,e7,EZ,CF,e1]
 .have e1:rs[k]?=none:=CJ a!;have e4:Sj fw! kB!=some Y_:=by simp[Sj,Et];omega
  have e8:f2 Sj H! eS_ bq_=some Y_:=by
   show yC!;rw[el];exact e4
  simp only[hgT,Fx,fT,e8,EZ,e1];rfl
theorem b7y{rs:h_}{k:Nat}(hk:k<ap!)(h:chl pj_ p=[])(hp:(dr_).2≠p):chl (rs.take S!) p=[]:=by rw[GG hk,Jc,h];show chl [((dr_).1,(dr_).2)] p=[];rw[hX hp];rfl
theorem a0a{rs:h_}(hl:ap!<5000)(iw:yy_)(hp:Sd p)(R:m_)(hR:∀k:Nat,k<=ap!->chl pj_ p=[]->R (.nx bq_) M):
  ∀(m k:Nat),ap! - k=m->k<=ap!->chl pj_ p=[]->∃n,Ga (Fj hgT) tk_ n bq_ M R
 |m,k,hm,hk,hc=>by
  have et:=c2a (x0:=x0) (i:=i) (s:=s) (y:=y) hk hl iw hp;by_cases c:k<ap!/\(rs[k]?.map B_)≠some p
  .obtain⟨c1,c2⟩:=c;have e1:rs[k]?=some rs[k]:=BA c1;rw[e1]at et c2;have c3:(dr_).2≠p:=λz=>c2 (by rw[<-z];rfl);rw[show(match(some rs[k]:Option ay!)with|some q=>!decide (q.2=p)|none=>false)=true by simp[c3]]at et;cases m with
   |zero=>omega
   |succ m=>
    obtain⟨n,hn⟩:=a0a hl iw hp R hR m S! a! a! (b7y c1 hc c3);refine⟨n+1,?_⟩;have es:f2 Bd H! v_ bq_=some pk!:=by
     show pk_;simp[Bd]
    simp only[Ga,Fj,et,CF,Ba,wl,es];exact hn
  .refine e5!;have ef:yz_=false:=by
    cases e:rs[k]? with
    |none=>rfl
    |some q=>
     have c1:k<ap!:=(AZ.mp e).1;have:q.2=p:=by
      by_cases z:q.2=p
      .exact z
      .exact absurd ⟨c1,by rw[e];simp[z]⟩ c
     simp[this]
   rw[ef]at et;simp only[Ga,Fj,et];exact hR k hk hc
noncomputable def hgB:WS:=Bj to! to_ Di
noncomputable def AtP(rs:h_)(s p:D)(k0 k at_:Nat):Prop:=(at_=k0/\∀j<k,rs[j]?≠some c8_)\/∃j<k,rs[j]?=some c8_/\at_=j+1
theorem a4e{rs:h_}{k0:Nat}(hl:ap!<5000)(iw:∀q∈rs,Sd q.1/\Sd q.2/\q.1≠.non)(hp:Sd p)(hs:Sd s)(R:m_)(hR:∀(a:Nat) y,AtP rs s p k0 rs.length a->R (.nx yD_) M):
  ∀(m k a:Nat) (y:av_),ap! - k=m->k<=ap!->AtP rs s p k0 k a->Kr eQ_ Q_ hgB yE! yD_ M R
 |0,k,a,y,hm,hk,ha=>⟨trivial,hR a y (by rw[show rs.length=k by omega];exact ha)⟩
 |m+1,k,a,y,hm,hk,ha=>by
  have c1:k<ap!:=by omega
  rw[List.range'_succ,AK];refine aU_;show hgB ds! M _;show Bj fo! _ _ ds! M _;have e1:rs[k]?=some rs[k]:=BA c1;obtain⟨q1,q2,q3⟩:=iw rs[k] hu_;have ea:f2 Aq L_ bw_ ds!=some kC!:=by
   show Gm ep! bb_=_;show"#%";simp[c1]
  have et:f2 Bu tn! tm_ ds!=some (.bl (decide ((dr_).1=s/\(dr_).2=p))):=by
   show(f2 Aq L_ bw_ ds!).bind (λz=>Bu z (.tup [s,p]))=_;rw[ea];exact b0v q1 q2 hs hp
  have en:f2 Bh G_ cg_ ds!=some (.bl (!Fd s)):=rfl;have cond:Fx tl! tn_ ds!=some (decide (rs[k]=c8_)):=by
   simp only[Fx,fT,en,et,EZ];by_cases z:s=.non
   .rw[show Fd s=true from rC.mpr z];have:¬rs[k]=c8_:=λy=>q3 vD_;simp[this]
   .rw[Sk z];simp only[HD,CF];congr 1;rw[decide_eq_decide];exact⟨λy=>Prod.ext y.1 y.2,λy=>by rw[y];exact bK_⟩
  have es:f2 Bd bw_ v_ ds!=some pk!:=by
   show pk_;simp[Bd]
  by_cases z:rs[k]=c8_
  .refine yE_;simp only[Ba,wl,es];exact a4e hl iw hp hs R hR m S! S! _ a! a! (.inr ⟨k,t_,by rw[e1,z],rfl⟩)
  .refine Qk yF! ?_;refine a4e hl iw hp hs R hR m S! a _ a! a! ?_;rcases ha with⟨B,Y⟩|⟨j,B,Y,h3⟩
   .refine .inl ⟨B,jR!⟩;by_cases y:j=k
    .rw[y,e1];exact λx=>z (BZ x)
    .exact Y j a!
   .exact yG_
theorem a5b.setRows{qa:D->Addr}{rows':h_}{e:Nat}(hA:yG!):a5b (Cg M w pl_) w rl {W with rows:=rows'} wt wn qa/\wL M rl (Cg M w pl_) rl:=by
 have aw:∀b,rl b≠.w->Cg M w pl_ b=M b:=λb J=>mup_ne λz=>J (by rw[z];exact hA.rw_);refine⟨⟨jq_,?_,?_,fu!,hA.rw_,hA.rt,hA.rn,bL!⟩,yH_⟩
 .rw[aw wt pm!];exact hA.mt
 .rw[pm_];exact hA.mn
 .show"#7"
 .by_cases z:b=w
  .rw[z,mup_same];simp
  .rw[jw!];show"#."
theorem a1j(h:X_)(iw:∀q∈W.rows,Sd q.1/\Sd q.2/\q.1≠.non)(hi:Sd i)(hp:Sd p)(hs:Sd s)(hl:cb!<4000)
  (hR:∀M' rows',nY W.rows i p s rows'->Dt M' w rl {W with rows:=rows'}->wL M rl M' rl->R .non M'):Mj [cn!,i,p,s] M R:=by
 show"!y";obtain⟨e,hw⟩:=hA.mw;refine j_;show Ap (Ba 4 pi!) _ yI_ M _;simp only[Ap,Ba,Ea,Em,ixw (ρ:=yI_) rfl hw k3r];refine dm_;have sub:∀q∈wo W.rows i,q∈W.rows:=λq hq=>(ng_).1;have lw:(jJ_).length<=cb!:=DO _ _;refine Ft (λd=>match d with|.tup [a,_]=>!decide (a=i)|_=>false) id trivial _ _ bU! ?_
 .obtain⟨q,hq,rfl⟩:=AX.mp hd;obtain⟨B,_,_⟩:=iw q hq;refine⟨pn_,rfl,kd_,xq!⟩;have e1:fT th! pn_=some yJ!:=by
   have:f2 Fw V_ w! pn_=some (.bl yJ!):=by
    show(Aq eo_ I_).bind (λz=>Fw z i)=_;rw[jE];exact tY B hi
   show"!8"
  simp only[Fj,e1];exact hK
 have e2:((fy!).filter λd=>match d with|.tup [a,_]=>!decide (a=i)|_=>false).map id=(jJ_).map Cp:=by
  rw[JM,GC];unfold wo;congr 1;apply DZ;intro q _;simp[Cp]
 rw[e2];generalize OB:wo W.rows i=rs at *;have JN:∀q∈rs,Sd q.1/\Sd q.2/\q.1≠.non:=λq hq=>iw q (sub q hq);show Kf (Fj hgT) _ [x!,H_,cc_,bT!,fB!,some I_,none] M _;refine a0a (M:=M) a! (λq hq=>⟨(JN q hq).1,(JN q hq).2.1⟩) hp _ (λk0 W8 UY=>?_) rs.length 0 a! a! (by rw[List.take_zero];rfl);show Fn (Qt (Km eS_)) eQ_ hgB po! M _;have hr:Km eS_ po!=some ((List.range' 0 ap!).map λj=>D.int o6!):=by
  have:f1 Dd gg! po!=some kB!:=by
   show yA!;simp[Dd]
  unfold Km;rw[this];show(if -1000<=po_/\po_<=100000 then some (Hi (po_).toNat)else none)=_;rw[ab!];simp[Hi,List.range_eq_range']
 simp only[Fn,Qt,hr,Ie];refine a4e (M:=M) a! JN hp hs _ (λa y ha=>?_) rs.length 0 k0 none a! a! yJ_;have ul:a<=ap!:=by
  rcases ha with⟨B,_⟩|⟨j,B,_,h3⟩<;>omega
 have ev:f2 Bd tq! tq_ fC_=some kE_:=by
  have s1:Ji L_ Cb eT! fC_=some pp_:=b7t kF!;have s2:Ji L_ eT! Cb fC_=some yK_:=a0s kF!;have s3:Hw tp! fC_=some pq!:=rfl;have a1:Bd pp_ pq!=some yL!:=by
   show ha!;rw[kF_]
  have a2:Bd yL! yK_=some kE_:=by
   show ha!;rw[kF_];simp
  show((Ji L_ Cb eT! _).bind λx=>(Hw _ _).bind λz=>Bd x z).bind (λx=>(Ji L_ eT! Cb _).bind λz=>Bd x z)=_;rw[s1,s3,s2];show(Bd pp_ pq!).bind (λx=>Bd x _)=_;rw[a1];exact a2
 have gw:Ux M bq! dT! kE_=some (Cg M w (.dct (k3 kE_ fy_ en_) (Lq hx_ dT! e))):=by
  rw[Ob (k:=yL_) hw rfl (by show 3<big;decide),k3p]
 have f0:Aa 0 fC_=some bq!:=rfl;obtain⟨g1,g2⟩:=hA.setRows (rows':=rs.take a++bN_::rs.drop a) (e:=Lq hx_ dT! e);have fin:=hR _ yK! ⟨rs.take a,rs.drop a,by rw[OB,List.take_append_drop],rfl,?_⟩ yN! g2
 .show Ei i! gy_ (wl _) fC_ M _;simp only[Ei,wl,ev,f0,fC,gw,Ie];exact fin
 .rw[OB];rcases ha with⟨B,Y⟩|⟨j,B,Y,h3⟩
  .refine .inl ⟨cH_,by rw[B];exact UY⟩;obtain⟨j,hj⟩:=FE.mp n1_;exact Y j (AZ.mp hj).1 hj
  .refine .inr ⟨rs.take j,?_⟩;have hj:j<ap!:=(AZ.mp Y).1;rw[h3,GG hj,(AZ.mp Y).2]
theorem a4g{rows:h_}(nd:fq_):(rows.filter λq=>decide hA_)=match rows.find? yO_ with|some q=>[q]|none=>[]:=by
 induction rows with
 |nil=>rfl
 |cons a r ih=>
  rw[AK,AV]at nd;by_cases e:a.1=x
  .rw[CK gS!,List.find?_cons_of_pos gS!];have:r.filter yO_=[]:=by
    rw[GI];intro q hq;simp only[BM];exact λz=>nd.1 (by rw[e,<-z];exact AO hq)
   rw[this]
  .rw[CL gS!,List.find?_cons_of_neg gS!,ih nd.2]
theorem a8g{W:OW}(wi:El W)(h:jn_):kG_=[a7_]:=by
 rw[a4g wi.rnd];cases e:W.rows.find? λq=>decide hA_ with
 |none=>have:=List.find?_eq_none.mp e a7_ h;simp at this
 |some q=>
  have B:=List.find?_some e;have Y:=List.mem_of_find?_eq_some e;simp at B;have:q.2=p:=Ss wi.rnd (by rw[<-B];exact Y) h;obtain⟨a,b⟩:=q;dsimp only at B this ⊢;rw[B,this]
theorem c8r{W:OW}(wi:El W)(h:∀p,a7_∉W.rows):kG_=[]:=by rw[GI];rintro⟨a,b⟩ hq;simp only[BM];exact λz=>h b uE_
noncomputable def liB:WS:=Ap tt!
 (Ap tt_
 (Ba 1 eM!))
theorem qW(h:X_)(wi:El W)(hl:fA_)(hi:Pg i){rk:D->Nat}(gu:uU!):∀(n:Nat) (x:D) (y:av_),rk x<n->Lb W x->∀(R':m_),(Wn W.rows i x->∀y',R' (.nx [x!,H_,H_,y']) M)->(¬Wn W.rows i x->R' (.rt Y_) M)->
   ∃m,Ga iR! liB m fD! M R'
 |0,x,y,hn,_,_,_,_=>by omega
 |n+1,x,y,hn,L,R',r1,r2=>by
  obtain⟨wt,wn,qa,hA⟩:=id h;obtain⟨e0,hw⟩:=hA.mw;have sx:=vH wi L;have et:fT l0! fD!=some pr_:=by
   have:f2 Fw w! y! fD!=some (.bl pr_):=tY sx hi.sd;show"!8"
  by_cases e:x=i
  .subst e;refine e5!;rw[show(!decide (x=x))=false by simp]at et;simp only[Ga,Fj,et];exact r1 .here y
  .rw[show pr_=true by simp[e]]at et;have body:∀(K:m_),(uU_->K (.rt Y_) M)->(∀p,a7_∈W.rows->K (.nx [x!,cc_,H_,some ps!]) M)->liB fD! M K:=λK g1 g2=>by
    show Ap (Ba 3 pi!) _ fD! M _;simp only[Ap,Ba,Ea,Em,ixw (ρ:=fD!) rfl hw k3r];refine dm_;refine Ft (λd=>match d with|.tup [a,_]=>decide (a=x)|_=>false) (λd=>match d with|.tup [_,p]=>p|_=>.non) trivial _ _ bU! ?_
    .show"!>";obtain⟨B,_,_⟩:=Tf wi q hq;refine pi_
     .have e1:fT iR_ cJ_=some kH_:=by
       have:f2 Bu V_ w! cJ_=some (.bl kH_):=by
        show yQ!;rw[jE];exact Yg B.sd sx
       show"!8"
      simp only[Fj,e1];exact hK
     .have e1:f2 Aq i_ v_ cJ_=some q.2:=vD;simp only[wl,e1];exact hK
    .have e2:(((fy!).filter λd=>match d with|.tup [a,_]=>decide (a=x)|_=>false).map λd=>match d with|.tup [_,p]=>p|_=>.non)=(kG_).map B_:=by
      rw[GC,CB];rfl
     rw[e2];by_cases c:∃p,a7_∈W.rows
     .obtain⟨p,hp⟩:=c;rw[a8g wi hp];show Bj fo! _ _ ps_ M _;refine Qk rfl ?_;show Ba 1 eM! ps_ M _;have e3:f2 Aq G_ F_ ps_=some p:=rfl;simp only[Ba,wl,e3];exact g2 p hp
     .have c':∀p,a7_∉W.rows:=λp z=>c ⟨p,z⟩;rw[c8r wi c'];show Bj fo! _ _ [x!,aT!,H_,fx_] M _;refine ifT rfl ?_;exact g1 c'
   rcases L with L|L
   .obtain⟨p,hp⟩:=a2m wi L;have q:=a1u wi.rnd hp e;have:=gu _ _ hp;have key:∀y',∃m,Ga iR! liB m [x!,cc_,H_,y'] M R':=λy'=>qW h wi hl hi gu n p y' a! (wi.rp _ _ hp) R' uV! (λz=>r2 λv=>z (q.mp v));obtain⟨m,hm⟩:=key (some ps!);refine⟨m+1,?_⟩;simp only[Ga,Fj,et,CF];exact body _ (λnt=>absurd hp (nt p)) λp' bq=>by rw[Ss wi.rnd bq hp];exact hm
   .have nt:∀p,a7_∉W.rows:=by
     rcases L with rfl|rfl
     .exact eW wi (a5z wi)
     .exact eW wi (b8f wi)
    refine e5!;simp only[Ga,Fj,et,CF];exact body _ (λ_=>r2 (b1q nt e)) (λp hp=>absurd hp (nt p))
theorem b8l(h:X_)(wi:El W)(hl:fA_)(L:cz_)(hi:Pg i)(hR:∀b:Bool,(b=true↔Wn W.rows i x)->R bI_ M):Yd [cn!,x,i] M R:=by obtain⟨rk,gu⟩:=wi.rk;refine j_;show Ap (Kf iR! liB) (Bz gg_) [x!,aT!,H_,none] M _;exact qW h wi hl hi gu (rk x+1) x none a! L _ (λz y'=>hR true f1!) (λz=>hR false f1!)
theorem c1x{neg:Bool}{ep:Nat}(h:bS_)(hk:ck!):Qj neg M y D_=some (.bl (if neg then !(hB_).isSome else(hB_).isSome)):=by simp[Qj,h,hk]
theorem c1v(L:Sd x)(ha:Sd a)(J:Sd b):Qj false M x hy_=some (.bl (decide (x=a\/x=b))):=by
 have d1:=Rq ha;have d2:=Rq J;have e:((ai!).any λd=>Jb d x)=decide (x=a\/x=b):=by
  simp only[EO,List.any_nil,Bool.or_false,Xg ha L,Xg J L];by_cases B:a=x<;>by_cases Y:b=x<;>simp[B,Y,AI]<;>first|exact .inl B.symm|exact .inr Y.symm|exact⟨λz=>B z.symm,λz=>Y z.symm⟩|skip
 show Qj.inS false M x hy_=_;unfold Qj.inS;show(if Ct x&&Dw ai!&&decide (Gz ai!<=40)then some (D.bl (if false=true then _ else[a,b].any λd=>Jb d x))else none)=_;rw[AN (by simp[Ig L,Dw,Ig ha,Ig J,Gz];omega),e];rfl
theorem d4e{g:bp!}{fx:e!}{fb:WE}(L:fx ρ=some x)(K:u_):w2 g kJ! fb ρ M K=fb ρ M λy M2=>match g M2 x y with|some d=>K d M2|none=>False:=by simp only[w2,wl,L]<;>rfl
theorem b2c{W:OW}:(kget cn_ x).isSome=decide gL!:=by rw[Ws];by_cases h:x∈W.its<;>simp[h]
theorem cJ{fx:e!}(h:X_)(h0:hC!)(L:fx ρ=some x)(hk:aN_)(K:u_):w2 bw! kJ! bh_ ρ M K=K (.bl (decide gL!)) M:=by obtain⟨wt,wn,qa,hA⟩:=h;obtain⟨e0,hw⟩:=hA.mw;obtain⟨e1,ht⟩:=hA.mt;have hi:=ixw (M:=M) (ρ:=ρ) (s:=hq_) h0 hw k3t;have e:=c1x (neg:=false) ht hk;rw[show(if false=true then _ else(kget cn_ x).isSome)=decide gL! from b2c]at e;rw[d4e L,hi,e]
theorem a1i(h:X_)(wi:El W)(hl:cb!<4000)(hi:Sd i)(L:Sd x)(hs:Sd s)(cj:e6!)(gf:nx_)
  (hR:∀M' W',(d2_->∃rows',nY W.rows i x s rows'/\W'={W with rows:=rows'})->(¬d2_->W'=W)->Dt M' w rl W'->wL M rl M' rl->R .non M'):Ra [cn!,i,x,s] M R:=by
 refine j_;show Bj (Mm (wT _) (wOr (wT _) (wT _))) _ Di ds_ M _;have g1:=cJ (ρ:=ds_) (fx:=Aa 1) h rfl rfl cj;have g2:=cJ (ρ:=ds_) (fx:=Aa 2) h rfl rfl gf;have g3:∀K:D->Mh->Prop,w2 bw! F! tv! ds_ M K=K (.bl (decide (x=root\/x=binn))) M:=λK=>by
  have uj:Aa 2 ds_=some x:=rfl;have:=c1v (M:=M) L (Pw "root") (Pw "bin");simp only[w2,wl,uj,fC,this]
 have no:(¬d2_)->R .non M:=λc=>hR M W (λz=>absurd z c) (λ_=>rfl) h .refl;have OC:i∈W.its->Lb W x->Bj tv_ tx! Di ds_ M gN_:=λc1 c2=>by
  have hc:∀(K:u_),Yd [cn!,x,i] M K->Ay 3 Yd (Ac i! ik_) ds_ M K:=λK h=>ca_;unfold Bj Sw wT;refine hc _ (b8l h wi a! c2 (wi.nm i c1) λb J=>?_);cases b with
  |true=>exact no λz=>z.2.2 (J.mp rfl)
  |false=>
   have nw:¬Wn W.rows i x:=λz=>by have:=J.mpr z;cases this
   have jb:∀(K:u_),Mj [cn!,i,x,s] M K->Ay 4 Mj tw_ ds_ M K:=λK h=>ca_;simp only[HD,CF];refine Ol (jb _ (a1j h d4_ hi L hs hl λM' rows' hg hL hF=>?_))
   .show"#8";exact⟨B.sd,Y,B.nn.1⟩
   .exact hR M' _ (λ_=>⟨rows',hg,rfl⟩) (λz=>absurd ⟨c1,c2,nw⟩ z) hL hF
 simp only[Bj,Mm,wOr,wT,g1];by_cases c1:i∈W.its
 .rw[BJ c1];simp only[CF,g2];by_cases c2:x∈W.its
  .rw[BJ c2];exact OC c1 (.inl c2)
  .rw[AU c2];simp only[BH,BW,g3];by_cases c3:x=root\/x=binn
   .rw[BJ c3];exact OC c1 (.inr c3)
   .rw[AU c3];exact no λz=>z.2.1.elim c2 c3
 .rw[AU c1];exact no λz=>c1 z.1
end
noncomputable def b7j:WS:=(Ap tz!
 (Ap mP_
 (Ap mR_
 mT!)))
noncomputable def b7h:WS:=tC!
noncomputable def wrF:WS:=tE!
noncomputable def vT:WS:=(Ap iU!
 (Ap (Ba 6 a2!)
 (Ap (Fn mV_ (Dr 7) wrF)
 (Ap tG_
 tI_))))
noncomputable def b7l:WS:=(Ap tL!
 (Ap iU!
 tL_))
abbrev knd(k:Str):Ag->Option Bool:=fT (f2 Bu bx_ (fC U!))
abbrev zX:WT:=wT gA_
theorem c0b:b3l=Ap mO! (Ap mP!
 (Bj yX_ b7j (Bj yY! mU! (Bj yY_ mU_
  (Bj yZ! b7h y0!))))):=rfl
section
variable{M:Mh}{R:D->Mh->Prop}{w:Addr}{rl:Addr->LR}{W:OW}{ρ:Ag}{pre:List D}
theorem b5y(h:pu_):knd k' ρ=some kb_:=by
 have e:Aq eh! I_=some U!:=by
  show ow!;show"!c"
 have:f2 Bu bx_ (fC ov_) ρ=some (.bl kb_):=by
  show((kJ_).bind λx=>Aq x I_).bind (λx=>Bu x ov_)=_;rw[h];show(Aq eh! I_).bind _=_;rw[e];exact Nn k k'
 unfold knd fT;rw[this];rfl
theorem p1(h:y0_):f2 Aq y! v_ ρ=some a:=by show(kJ_).bind (λx=>Aq x aZ_)=_;rw[h];exact ix1
theorem p2(h:Aa 2 ρ=some ox!):f2 Aq y! R! ρ=some b:=by show(kJ_).bind (λx=>Aq x bv!)=_;rw[h];exact ix2
theorem p3(h:Aa 2 ρ=some ox_):f2 Aq y! as! ρ=some c:=by show(kJ_).bind (λx=>Aq x aA_)=_;rw[h];exact ix3
theorem anF{ft:aa!}{fu:WT}{q1 q2:WS}{R:m_}(h:w8_)(k:eg_):Bj y1_ q1 q2 ρ M R:=by simp only[Bj,Mm,Fj,h];exact k
theorem anT{ft:aa!}{fu:WT}{q1 q2:WS}{R:m_}{b:Bool}(h:w8!)(hu:∀K:Bool->Mh->Prop,K b M->fu ρ M K)(k1:y2!)(k2:y2_):Bj y1_ q1 q2 ρ M R:=by
 simp only[Bj,Mm,Fj,h,CF];refine hu _ ?_;cases b with
 |true=>rw[j!];exact k1 rfl
 |false=>rw[T!];exact k2 rfl
theorem vJ(h:X_)(h0:hC!)(Y:y0_)(hk:dg!)(K:fw_)(hK:K (decide (a∈W.its)) M):zX ρ M K:=by unfold zX wT;rw[cJ h h0 (p1 Y) hk];exact hK
theorem Fv.sd(h:Fv x):Sd x:=by
 rcases h with rfl|rfl|⟨a,b,rfl,_⟩
 .exact Pw _
 .exact Pw _
 .exact .inr nt!
theorem Yp.sd(h:Yp x):Sd x:=by
 rcases h with rfl|⟨a,b,rfl,_⟩
 .exact cV!
 .exact .inr nt!
theorem Ur.sd(h:Ur x):Sd x:=by
 rcases h with rfl|⟨a,b,c,rfl,_⟩
 .exact cV!
 .exact .inr uS!
theorem a5b.setTx{qa:D->Addr}{l:ae!}{e:Nat}(hA:yG!)(nd:ne_)(ha:dY_):a5b (Cg M wt pv!) w rl no! wt wn qa/\wL M rl (Cg M wt pv!) rl:=by
 have aw:∀b,rl b≠.wt->Cg M wt pv! b=M b:=λb J=>mup_ne λz=>J (by rw[z];exact hA.rt);refine⟨⟨?_,e1!,?_,fu!,hA.rw_,hA.rt,hA.rn,bL!⟩,yH_⟩
 .rw[aw w pv_];exact hA.mw
 .rw[mup_same,zG nd ha];congr 2;apply CW;intro i _;show(i,if i=a then D.lst kK_ else D.lst kx_)=(i,D.lst ((if i=a then l else W.txt i).map Cm));split<;>rfl
 .rw[pm_];exact hA.mn
 .show"#7"
 .by_cases z:b=wt
  .rw[z,mup_same];simp
  .rw[jw!];show"#."
theorem b7g{p v:Int}{R:m_}(h:X_)(wi:El W)(ha:dY_)(hk:dg!)(h0:hC!)(Y:Aa 2 ρ=some j6_)(p0:0<=p)(qi:p<=3)
  (hR:∀M',Dt M' w rl (xE W a j8!)->wL M rl M' rl->R aG! M'):b7h ρ M R:=by
 obtain⟨wt,wn,qa,hA⟩:=h;obtain⟨e0,hw⟩:=hA.mw;obtain⟨e2,hn⟩:=hA.mn;obtain⟨hq,jo⟩:=hA.mq a ha;have hi:=ixw (M:=M) (ρ:=ρ) (s:=nm!) h0 hw k3n;have hg:Dz M en_ a=some pw!:=by rw[Nk hn hk,Ws,AN ha]
 have L:Iw (ot_).length p=some p.toNat:=by
  rw[wi.nl a ha];unfold Iw;rw[AN p0,ab!]
 have gw:Ux M pw! (.int p) (.int v)=some (Cg M (qa a) (.lst j8!)):=by simp[Ux,hq,L]
 have aw:∀b,rl b≠.q a->Cg M (qa a) (.lst j8!) b=M b:=λb J=>mup_ne λz=>J uW_;have fin:=hR _ ⟨wt,wn,qa,⟨by rw[aw w pv_];exact hA.mw,by rw[aw wt pm!];exact hA.mt,by rw[pm_];exact hA.mn,λi hi=>by
   by_cases c:i=a
   .subst c;refine⟨?_,jo⟩;rw[mup_same];simp[xE]
   .obtain⟨g1,g2⟩:=hA.mq i hi;refine⟨?_,g2⟩;rw[aw _ (by rw[g2];simpa using c),g1];simp[xE,c],hA.rw_,hA.rt,hA.rn,λb J=>by
   by_cases z:b=qa a
   .rw[z,mup_same];simp
   .rw[jw!];exact hA.live b J⟩⟩ (λb _ hr=>yH!)
 show Ei tB_ gm! (wl a3!) ρ M R;have e3:=p3 Y;have UZ:=p2 Y;have e1:=p1 Y;have ui:∀K:D->Mh->Prop,w2 Dz mR! b5! ρ M K=K pw! M:=λK=>by
  have st:∀{fo:WE} {fb:e!} {x y:D} (_:y4_) (_:kL_) (K:u_),w2 Dz fo fp_ ρ M K=(match Dz M x y with|some d=>K d M|none=>False):=λB Y K=>by
   unfold w2;rw[B];simp only[wl,Y]<;>rfl
  rw[st hi e1,hg]
 unfold Ei;simp only[wl,e3];rw[ui];simp only[wl,UZ,gw,Ie];exact fin
theorem d4f{g:bp!}{fo:WE}{fb:e!}(B:y4_)(Y:kL_)(K:u_):w2 g fo fp_ ρ M K=(match g M x y with|some d=>K d M|none=>False):=by unfold w2;rw[B];simp only[wl,Y]<;>rfl
theorem b2a{fx:e!}(h:X_)(h0:hC!)(L:fx ρ=some a)(hk:dg!)(ha:dY_)(K:u_):w2 Dz bh_ kJ! ρ M K=K (.lst ep_) M:=by obtain⟨wt,wn,qa,hA⟩:=h;obtain⟨e0,hw⟩:=hA.mw;obtain⟨e1,ht⟩:=hA.mt;rw[d4f (ixw (M:=M) (ρ:=ρ) (s:=hq_) h0 hw k3t) L,Nk ht hk,Ws,AN ha]
theorem d0f{q:e2!}:Aq (Cm q) I_=some q.1:=by simp[Cm,Aq,Gm,Iw]
theorem d0e{q:e2!}:Aq (Cm q) aZ_=some q.2.1:=by simp[Cm,Aq,Gm,Iw]
theorem d0d{q:e2!}:Aq (Cm q) bv!=some pw_:=by simp[Cm,Aq,Gm,Iw]
theorem c1w{neg:Bool}(L:Sd x)(hl:∀d∈l,Sd d):Qj neg M x (.lst l)=some (.bl (if neg then !decide (x∈l)else decide (x∈l))):=by
 have e:y5_=decide (x∈l):=by
  rw[EH,List.any_eq_true,BM];show"!J"
  .rintro⟨d,hd,he⟩;rw[Xg (hl d hd) L,BM]at he;rw[<-he];exact hd
  .intro h;exact⟨x,h,by rw[Xg L L];simp⟩
 have n:∀l:List D,(∀d∈l,Sd d)->Dw l=true/\Gz l<=5:=λl=>by
  induction l with
  |nil=>intro _;simp[Dw,Gz]
  |cons a r ih=>
   intro h;obtain⟨i1,i2⟩:=ih λd hd=>h d (AE _ hd)
   have B:=Ig (h a AM);have Y:=Rq (h a AM);refine⟨by simp[Dw,B,i1],by simp[Gz];omega⟩
 obtain⟨n1,n2⟩:=n l hl;show Qj.inS neg M x (.lst l)=_;unfold Qj.inS;show(if Ct x&&Dw l&&decide (Gz l<=40)then some (D.bl (if neg=true then ! y5_ else l.any λd=>Jb d x))else none)=_;rw[AN (by rw[Ig L,n1];simp;omega),e]
theorem b3o{fx:e!}{fv:WE}{l:ae!}{R:m_}(h:X_)(nd:ne_)(hB:fE!<5000)(h0:hC!)(L:fx ρ=some a)(hk:dg!)(ha:dY_)(hv:∀K:D->Mh->Prop,K kL! M->fv ρ M K)
  (hR:∀M',Dt M' w rl no!->wL M rl M' rl->R aG! M'):Ei bh_ kJ! fv ρ M R:=by
 show"!y";obtain⟨e0,hw⟩:=hA.mw;obtain⟨e1,ht⟩:=hA.mt;unfold Ei;refine hv _ ?_;rw[ixw (M:=M) (ρ:=ρ) (s:=hq_) h0 hw k3t];have gw:=Ob (y:=a) (v:=.lst kK_) ht hk dt!;simp only[wl,L,gw,Ie];obtain⟨g1,g2⟩:=hA.setTx (a:=a) (l:=l) (e:=Lq cn_ a e1) nd ha;exact hR _ yN! g2
theorem iV{f:e!}{n:Nat}(h:f ρ=some (.int (n:Nat)))(hn:n<=100000):Km f ρ=some ((n7!).map λi=>D.int cM!):=by unfold Km;rw[h];show(if -1000<=px_/\px_<=100000 then some (Hi (px_).toNat)else none)=_;rw[ab!];simp[Hi]
theorem b7k{g4 r5 r6 r7 r8:D}{x y z m:Int}{R:m_}(h:X_)(wi:El W)(hB:fE!<5000)(ht:y7!)(ha:dY_)(hk:dg!)(m1:1<=m)(SM:m<=16)
  (hR:∀M' ρ',Dt M' w rl (setT W a (cutT u5! ao_))->wL M rl M' rl->R cL_ M'):
  b7l py! M R:=by
 have Y:∀o4 o5 o6 o7 o8 o9,Aa 2 py!=some ee_:=λ_ _ _ _ _ _=>rfl;have hm:((m.toNat:Nat):Int)=m:=by omega
 have er:Km a3! py!=some ((d6!).map λi=>D.int cM!):=iV (by rw[p3 y7_,hm]) a!;show Ap (Ba 9 (Ea 1 [2] (Qt _) _ _ _)) _ _ M R;simp only[Ap,Ba,Ea,Qt,er,Ie];refine dm_;refine Ft fm_ (λd=>match d with|.int k=>.tup y8!|_=>.non) trivial _ _ bU! ?_
 .obtain⟨k,cr,rfl⟩:=AX.mp hd;refine⟨cM_,rfl,hi!,ei!⟩;have e1:f2 Aq w! R! cM_=some d5_:=by
   show Aq ee_ bv!=_;exact ix2
  have tf:Cy d5_ none (some 2)=some jt!:=by simp[Cy,Ha,HT.sIx]
  have e2:Ji gB_ Cb cX! cM_=some jt!:=by
   unfold Ji;rw[e1];exact tf
  have e3:f2 Aq gB_ R! cM_=some (.int z):=by
   show(f2 Aq w! R! cM_).bind (λv=>Aq v bv!)=_;rw[e1];rfl
  have e4:f2 Bd tK! (Cf mY!) cM_=some (.tup [e7!,e7_,.int (z+bb_)]):=by
   have e5:Cf mY! cM_=some (.tup [.int (z+bb_)]):=by
    have:f2 Bd tK_ i_ cM_=some (.int (z+bb_)):=by
     show(f2 Aq gB_ R! cM_).bind (λv=>Bd v hC_)=_;rw[e3];rfl
    unfold Cf Ad;rw[this];rfl
   show(Ji _ _ _ _).bind (λu=>(Cf _ _).bind λv=>Bd u v)=_;rw[e2,e5];rfl
  simp only[wl,e4];exact hK
 rw[hi_,CB];show w2 Dz bh_ b5! [some bq!,some x0,some ee_,some nm,o4,o5,o6,o7,o8,some (.lst ((d6!).map za!))] M _;have eg:(d6!).map za!=(d6!).map λk=>D.tup gQ_:=rfl;rw[eg];generalize hg:(d6!).map (λk=>D.tup gQ_)=cm at hR;have ym:∀d∈cm,Sd d:=λd hd=>by
  rw[<-hg]at hd;obtain⟨k,_,rfl⟩:=AX.mp hd;exact .inr (.inr (.inr ⟨[x,y,z+(k:Nat)],rfl⟩))
 rw[b2a (ρ:=[x!,N!,kM_,fE_,o4,o5,o6,o7,o8,some hD!]) h rfl (p1 y7_) hk ha];refine b3o (l:=cutT cm ao_) h wi.nd hB rfl kN_ hk ha zb_ λM' g1 g2=>hR M' _ g1 g2;show Ea 1 [9] (Qt (Hk H!)) _ _ _ zc! M K;have ei:Hk H! zc!=some ep_:=rfl;simp only[Ea,Qt,ei,Ie];refine dm_;refine Ft fm_ (λd=>match d with|.tup [s,c,.bl b]=>Cm zc_|_=>.non) trivial _ _ bU! ?_
 .obtain⟨q,hq,rfl⟩:=AX.mp hd;have sq:Sd q.1:=(zd!).sd;refine⟨hE_,rfl,hi!,ei!⟩;have e0:f2 Aq i_ F_ hE_=some q.1:=d0f;have e1:f2 Aq i_ v_ hE_=some q.2.1:=d0e;have e2:f2 Aq i_ R! hE_=some pw_:=d0d;have e3:Aa 1 hE_=some hD!:=rfl;have e4:Qj true M q.1 hD!=some (.bl (!decide (q.1∈cm))):=c1w sq ym;simp only[wO,Ac,Ak,wl,e0,e1,Yr,wT,e2];cases J:q.2.2 with
  |true=>
   rw[j!];simp only[w2,wl,e0,e3,e4];refine⟨I!,?_⟩;have:K (Cm nz_) M:=by
    have:=hK;rw[zd_]at this;exact this
   rw[J]at this;simpa[Cm]using this
  |false=>
   rw[T!];refine⟨I!,?_⟩;have:K (Cm nz_) M:=by
    have:=hK;rw[zd_]at this;exact this
   rw[J]at this;simpa[Cm]using this
 .rw[hi_,CB];have:(ao_).map ((λd=>match d with|.tup [s,c,.bl b]=>Cm zc_|_=>D.non)∘Cm)=(cutT cm ao_).map Cm:=by
   unfold cutT;rw[CB];rfl
  rw[this];exact hK
noncomputable def AtS(l:ae!)(b:D)(k a:Nat):Prop:=(a=0/\∀j<k,ze!≠some b)\/∃j<k,ze!=some b/\a=j+1
theorem a1t{o4:D}{l:ae!}(hl:ai_<5000)(hs:∀q∈l,Sd q.1)(J:Sd b)(R:m_)(hR:∀(a:Nat) y,AtS l b l.length a->R (.nx zf!) M):
  ∀(m k a:Nat) (y:av_),ai_ - k=m->k<=ai_->AtS l b k a->Kr (Dr 7) Q_ wrF yE! zf! M R
 |0,k,a,y,hm,hk,ha=>⟨trivial,hR a y (by rw[show l.length=k by omega];exact ha)⟩
 |m+1,k,a,y,hm,hk,ha=>by
  have c1:k<ai_:=by omega
  rw[List.range'_succ,AK];refine aU_;show wrF cN! M _;show Bj fo! _ _ cN! M _;have e1:l[k]?=some l[k]:=BA c1;have ea:f2 Aq H! bx! cN!=some (Cm l[k]):=by
   show Gm kK_ bb_=_;show"#%";simp[c1]
  have eb:f2 Aq y! R! cN!=some b:=p2 rfl;have et:f2 Bu tD! dI_ cN!=some (.bl zf_):=by
   show((f2 Aq H! bx! cN!).bind λv=>Aq v I_).bind (λu=>(f2 Aq y! R! cN!).bind λv=>Bu u v)=_;rw[ea,eb];show(Aq (Cm l[k]) I_).bind (λu=>Bu u b)=_;rw[d0f];exact Yg (hs _ hu_) J
  have cond:fT tD_ cN!=some zf_:=by
   unfold fT;rw[et];rfl
  have es:f2 Bd bx! v_ cN!=some pk!:=by
   show pk_;simp[Bd]
  by_cases z:(l[k]).1=b
  .refine yE_;simp only[Ba,wl,es];exact a1t (o4:=o4) hl hs J R hR m S! S! _ a! a! (.inr ⟨k,t_,by rw[e1];exact congrArg some z,rfl⟩)
  .refine Qk yF! ?_;refine a1t (o4:=o4) hl hs J R hR m S! a _ a! a! ?_;rcases ha with⟨B,Y⟩|⟨j,B,Y,h3⟩
   .refine .inl ⟨B,jR!⟩;by_cases y:j=k
    .rw[y,e1];exact λx=>z (BZ x)
    .exact Y j a!
   .exact yG_
theorem AtS.wr{l:ae!}{a:Nat}(h:AtS l b l.length a)(nd:(em_).Nodup):wrT b nw l=l.take a++nw++l.drop a/\a<=ai_:=by
 rcases h with⟨rfl,Y⟩|⟨j,B,Y,rfl⟩
 .have nb:b∉l.map a_:=λz=>by
   obtain⟨j,hj⟩:=FE.mp z;rw[BS]at hj;have:j<ai_:=by
    cases e:l[j]? with
    |none=>rw[e]at hj;cases hj
    |some q=>exact(AZ.mp e).1
   exact Y j this hj
  unfold wrT;rw[AH nb];simp
 .have hj:l[j]?=some l[j]:=BA B;rw[hj]at Y;have J:(cl!).1=b:=BZ Y;have e:l=l.take j++l[j]::l.drop (j+1):=by rw[<-ES B,List.take_append_drop]
  have nb:b∉(l.take j).map a_:=λz=>by
   rw[e]at nd;simp only[BK,AK]at nd;rw[BO]at nd;exact nd.2.2 _ z _ d_ J.symm
  have ui:b∈l.map a_:=by rw[<-J];exact AO (DH B)
  refine⟨?_,t_⟩;unfold wrT;rw[AN ui]
  conv=>lhs;rw[e]
  rw[mY J nb,GG B];simp only[CN,FA,CT]
theorem a8v(h n:Int)(s:Str):s.cps.toList.zipIdx.map d7_=(pB!).map λk=>(D.tup os_,D.str kO!,true):=by
 apply JB;intro i;rw[BS,BS,List.getElem?_zipIdx];by_cases c:i<gV_
 .have c':i<aw!:=by simpa[Str.length]using c
  rw[BA c,List.getElem?_range c'];simp[sgn,List.getD,BA c];simp at c;simp[c]
 .have c':¬i<aw!:=by simpa[Str.length]using c
  rw[CJ a!,CJ b3_];rfl
theorem d2h{f g k:e!}(B:kO_)(Y:kP!)(h3:k ρ=some c):Cf (Ad f zi!) ρ=some (.tup ev_):=by simp[Cf,Ad,Ao,B,Y,h3]
theorem a4l{h n:Int}{s:Str}{R:m_}(hL:X_)(wi:El W)(hB:fE!<5000)(ht:y7!)(ha:dY_)(hk:dg!)(J:Sd b)(TK:jA!)
  (hR:∀M' ρ',Dt M' w rl (setT W a (wrT b d9_ ao_))->wL M rl M' rl->R cL_ M'):
  vT pB_ M R:=by
 show Ap (Ba 5 (w2 Dz _ _)) _ pB_ M R;unfold Ap Ba;rw[b2a (ρ:=pB_) hL rfl kN_ hk ha];show Fn mV_ (Dr 7) wrF zi_ M _;have er:Km tC_ zi_=some ((List.range (ao_).length).map λi=>D.int cM!):=iV (by
  show Dd [.lst ep_]=_;simp[Dd]) a!
 simp only[Fn,Qt,er,Ie,List.range_eq_range'];refine a1t (M:=M) (o4:=.non) ht (λq hq=>(zd!).sd) J _ (λat_ y JO=>?_) (ao_).length 0 0 none a! a! yJ_;obtain⟨ew,ul⟩:=JO.wr (nw:=s.cps.toList.zipIdx.map d7_) (wi.snd a ha);show Ea 1 [2,3] (Qt _) _ _ _ zj_ M _;have cb:Km tE_ zj_=some ((pB!).map λi=>D.int cM!):=iV (by
  unfold f1 Ad;rw[p3 (k:="write") (a:=a) (b:=b) (c:=dd_) (r:=[]) rfl];show Dd [dd_]=_;simp[Dd,big];omega) a!
 simp only[Ea,Qt,cb,Ie];refine dm_;refine Ft fm_ (λd=>match d with|.int k=>Cm zk!|_=>.non) trivial _ _ bU! ?_
 .obtain⟨k,cr,rfl⟩:=AX.mp hd;have U':=FS.mp cr;refine⟨fF_,rfl,hi!,ei!⟩;have e1:f2 Bd y! (Cf aZ!) fF_=some (.tup zk_):=rfl;have e2:f2 Aq w! as! fF_=some aw_:=by
   show Aq ff! aA_=_;exact ix3
  have hc:k<gV_:=by simpa[Str.length]using U'
  have e3:Aq aw_ hC_=some (.str kO!):=by
   show(if aw!<=big then(Gm s.cps.toList bb_).map _ else none)=_;rw[dj_];have:Gm s.cps.toList bb_=some (s.cps.toList.getD k 0):=by
    unfold Gm Iw;rw[ab!,ab!];simp only[EZ,FN];rw[BA hc,List.getD_eq_getElem?_getD,BA hc];rfl
   rw[this];rfl
  have e4:f2 Aq mN_ i_ fF_=some (.str kO!):=by
   show(f2 Aq w! as! fF_).bind (λv=>Aq v hC_)=_;rw[e2];exact e3
  have e5:Cf tF_ fF_=some (Cm (.tup zk_,.str kO!,true)):=by
   exact d2h e1 e4 rfl
  simp only[wl,e5];exact hK
 rw[hi_,CB];have en:(pB!).map ((λd=>match d with|.int k=>Cm zk!|_=>D.non)∘λi=>D.int cM!)=(d9_).map Cm:=by
  rw[a8v,CB];apply CW;intro k _;simp
 rw[en];show Ei bh_ _ _ [x!,N!,fF!,bk_,y4,hD_,pC_,y,some (.lst ((d9_).map Cm)),none] M _;have W9:(d9_).length=aw!:=by simp[Str.length]
 refine b3o (l:=wrT b d9_ ao_) hL wi.nd hB rfl kN_ hk ha zb_ λM' g1 g2=>hR M' _ g1 g2;generalize XA:s.cps.toList.zipIdx.map d7_=nw at *;have s1:Ji H! Cb eV_ pD!=some pD_:=b7t kF!;have s2:Ji H! eV_ Cb pD!=some zm!:=a0s kF!;have b1:Bd pD_ kQ!=some zn!:=by
  show ha!;rw[kF_]
 have b2:Bd zn! zm!=some zn_:=by
  show ha!;rw[kF_,ew];simp
 have ev:f2 Bd tH_ tI! pD!=some zn_:=by
  show((Ji H! Cb eV_ _).bind λu=>Bd u kQ!).bind (λu=>(Ji H! eV_ Cb _).bind λv=>Bd u v)=_;rw[s1,s2];show(Bd pD_ kQ!).bind (λu=>Bd u _)=_;rw[b1];exact b2
 simp only[wl,ev];exact hK
theorem Gw{f:e!}(h:cg!)(K:u_):wl f ρ M K=K d M:=by simp only[wl,h]
theorem b7i{h n:Int}{R:m_}(hL:X_)(wi:El W)(hB:fE!<4000)(hl:cb!<3900)(hn:zo!)(ha:Sd a)(hk:dg!)(J:Sd b)
  (hR:∀M' ρ' ae rows',nY W.rows af! dg_ b rows'->Dt M' w ae (Lz W af! rows')->wL M rl M' ae->R cL_ M'):
  b7j fG! M R:=by
 obtain⟨wt,wn,qa,hA⟩:=id hL;obtain⟨e0,hw⟩:=hA.mw;obtain⟨e1,ht⟩:=hA.mt;obtain⟨e2,wg⟩:=hA.mn;have az:∀{c d:Addr},rl c≠rl d->c≠d:=λh z=>h gW_;have OD:w≠wt:=az (by rw[hA.rw_,hA.rt];simp);have VA:w≠wn:=az (by rw[hA.rw_,hA.rn];simp);have tn:wt≠wn:=az (by rw[hA.rt,hA.rn];simp);show Ap (Ba 4 (a8n (w2 bw! _ _) _)) _ fG! M R;unfold Ap Ba a8n wT;rw[cJ (ρ:=fG!) hL rfl kN_ hk];have er:f2 Bu eI_ f6_ fG!=some (.bl zo_):=by
  show(f2 Aq y! v_ fG!).bind (λu=>Bu u f6!)=_;rw[zp!];exact Yg ha (Pw _)
 have key:∀g:Bool,(g=true↔(a∈W.its\/a=root))->
   Ap mP_ (Ap mR_ mT!)
    (bE_) M R:=by
  intro g hg;have f7:Ge af!=some (some (.inr [.inl h,.inl n])):=rfl;unfold Ap Ei;have f3:∀g',Aa 3 [x!,N!,some ee!,bk_,some (.bl g'),none,none,none,none,none]=some af!:=λ_=>rfl;have fl:Hw Ao bE_=some cJ!:=rfl;rw[Gw fl];rw[ixw (M:=M) (ρ:=bE_) (s:=hq_) rfl hw k3t];have gw:=Ob (y:=gV!) (v:=kQ_) ht f7 dt!;simp only[wl,f3,gw,Ie];rw[qX hn];generalize hM1:Cg M wt zp_=M1;have OE:M1 w=some (.dct hx_ e0):=by rw[<-hM1,mup_ne OD];exact hw
  have OF:M1 wn=some (.dct hF_ e2):=by rw[<-hM1,mup_ne (AI tn)];exact wg
  have JP:M1 wt=some zp_:=by rw[<-hM1];exact mup_same
  have m1:∀c,c≠wt->M1 c=M c:=λc hc=>by rw[<-hM1];exact mup_ne hc
  show Yq tz_ bE_ M1 _;refine⟨Z_,kj!⟩;have qw:w≠q:=Bl (by rw[OE];simp) hq;have qt:wt≠q:=Bl (by rw[JP];simp) hq;have qn:wn≠q:=Bl (by rw[OF];simp) hq;have VB:Cg M1 q ea! w=some (.dct hx_ e0):=(mup_ne qw).trans OE;have VC:Cg M1 q ea! wn=some (.dct hF_ e2):=(mup_ne qn).trans OF;show w2 Dz i! iT! bE_ (Cg M1 q ea!) _;rw[ixw (M:=Cg M1 q ea!) (ρ:=bE_) (s:=nm!) rfl VB k3n];have VD:=Ob (y:=gV!) (v:=.fn q) VC f7 dt!;simp only[wl,f3,VD,Ie];rw[qX hn];generalize wj:Cg (Cg M1 q ea!) wn zq!=M3;have Mq:∀c,M c≠none->c≠q:=λc hc=>by
   by_cases z:c=wt
   .rw[z];exact qt
   .exact Bl (N:=M1) (by rw[m1 c z];exact hc) hq
  have m3:∀c,c≠wt->c≠q->c≠wn->M3 c=M c:=λc B Y h3=>by rw[<-wj,nw!,cA!,m1 c B]
  have OG:M3 wt=M1 wt:=by rw[<-wj,mup_ne tn,mup_ne qt]
  have OH:M3 wn=some zq!:=by rw[<-wj];exact mup_same
  have OI:M3 q=some ea!:=by rw[<-wj,mup_ne (AI qn),mup_same]
  have VE:M3 w=M w:=m3 w OD qw VA
  let j2:D->Addr:=λi=>if i=.tup T_ then q else qa i
  let ae:Addr->LR:=λc=>if c=q then .q af! else rl c
  have ao:∀c,M c≠none->ae c=rl c:=λc hc=>AH (Mq c hc);have lw:M w≠none:=by rw[hw];simp
  have lt:M wt≠none:=by rw[ht];simp
  have ln:M wn≠none:=by rw[wg];simp
  have JQ:Dt M3 w ae (Lz W af! W.rows):=by
   refine⟨wt,wn,j2,⟨⟨e0,by rw[VE];exact hw⟩,⟨Lq cn_ af! e1,?_⟩,⟨Lq hF_ af! e2,?_⟩,fu!,(ao w lw).trans hA.rw_,(ao wt lt).trans hA.rt,(ao wn ln).trans hA.rn,ke_⟩⟩
   .rw[OG,JP];congr 2;show _=(zq_).map _;rw[BK];congr 1
    .apply CW;intro i hi;show(i,D.lst kx_)=(i,D.lst ((if i=.tup T_ then[]else W.txt i).map Cm));rw[zr!]
    .show[(D.tup T_,D.lst [])]=[(D.tup T_,D.lst ((if D.tup T_=.tup T_ then[]else W.txt af!).map Cm))];rw[j!];rfl
   .rw[OH];congr 2;show _=(zq_).map _;rw[BK];congr 1
    .apply CW;intro i hi;show(i,D.fn fz!)=(i,D.fn (if i=.tup T_ then q else qa i));rw[zr!]
    .show[(D.tup T_,D.fn q)]=[(D.tup T_,D.fn (if D.tup T_=.tup T_ then q else qa af!))];rw[j!]
   .have cz:i∈W.its++[D.tup T_]:=hi;rcases AQ.mp cz with z|z
    .obtain⟨g1,g2⟩:=hA.mq i z;have ni:i≠.tup T_:=λy=>hn (y▸z);have eq:j2 i=qa i:=AH ni;have lq:M fz!≠none:=by rw[g1];simp
     rw[eq];refine⟨?_,(ao _ lq).trans g2⟩;rw[m3 _ (az (by rw[g2,hA.rt];simp)) (Mq _ lq) (az (by rw[g2,hA.rn];simp)),g1];show some (dN.lst jp_)=some (dN.lst (if i=.tup T_ then _ else W.num i));rw[AH ni]
    .rw[AT]at z;subst z;have eq:j2 af!=q:=AN rfl;rw[eq];refine⟨?_,j!⟩;rw[OI];show _=some (dN.lst (if D.tup T_=.tup T_ then[.int 0,.int 0,.int 0,.int 0]else _));rw[j!]
   .by_cases z:c=q
    .rw[z,OI];simp
    .have bp:rl c≠.oth:=by rw[<-(AH z:ae c=rl c)];exact hc
     have lc:=hA.live c bp;by_cases z1:c=wt
     .rw[z1,OG,JP];simp
     .by_cases z2:c=wn
      .rw[z2,OH];simp
      .rw[m3 c z1 z z2];exact lc
  have F1:wL M rl M3 ae:=λc hc hr=>⟨m3 c (az (by rw[hr,hA.rt];simp)) (Mq c hc) (az (by rw[hr,hA.rn];simp)),(ao c hc).trans hr⟩;have ep:Yf (fT L_) eI_ ia_ bE_=some dg_:=by
   have e4:fT L_ bE_=some g:=rfl;unfold Yf;rw[e4];show(if g=true then f2 Aq y! v_ bE_ else some binn)=_;rw[zp!];by_cases c:a∈W.its\/a=root
   .rw[AN (hg.mpr c),AN (c.elim .inl λz=>.inr jp!)]
   .rw[AH λz=>c (hg.mp z)];by_cases c2:Lb W a
    .rw[AN c2];rcases c2 with z|z|z
     .exact absurd jp! c
     .exact absurd e5_ c
     .rw[z]
    .rw[AH c2]
  have eb:f2 Aq y! R! bE_=some b:=p2 rfl;have f0:Aa 0 bE_=some bq!:=rfl;have hc:∀(K:u_),Mj [cn!,gV!,dg_,b] M3 K->Ay 4 Mj tA! bE_ M3 K:=λK hK=>by
   simp only[Ay,Ac,Ak,wl,f0,f3,ep,eb];exact⟨rfl,hK⟩
  refine Ol (hc _ (a1j JQ d4_ (.inr (.inr (.inr ⟨[h,n],rfl⟩))) (by split;exact ha;exact Pw _) J (by show cb!<_;omega) λM' rows' rg cx VF=>?_))
  .obtain⟨z1,z2,_⟩:=Tf wi q hq;exact⟨z1.sd,z2,z1.nn.1⟩
  .exact hR M' _ ae rows' rg cx (F1.trans VF)
 by_cases c:a∈W.its
 .rw[BJ c];exact key true pF_
 .rw[AU c];show wl ty_ fG! M _;simp only[wl,er];exact key zo_ pF_
end
structure sE(W:OW)(hb:Nat):Prop where
 rows:cb!<=hb
 its:fE!<=hb
 txt:∀x,(aE_).length<=hb
theorem nY.len{rows rows':h_}(h:gH_):rows'.length<=rows.length+1:=by
 obtain⟨u,v,e1,e2,_⟩:=h;have B:(dY!).length<=rows.length:=by unfold wo;exact DO _ _
 rw[e1,AY]at B;rw[e2,AY,AR];omega
theorem sE.stp{W:OW}{hb:Nat}(l:cN_)(h:pG!):sE W' bk!:=by
 have l1:=l.rows;have l2:=l.its;have l3:=l.txt;have same:sE W bk!:=⟨t_,t_,λx=>by have:=l3 x;omega⟩;cases h with
 |put _ _ hg=>
  have:=hg.len;refine⟨by show _<=_;unfold Lz;simp only;omega,by unfold Lz;simp only[AY,DN];omega,ji!⟩;unfold Lz;simp only;split
  .simp
  .have:=l3 x;omega
 |mvY _ _ _ _ hg=>
  have:=hg.len;exact zv_
 |mvN=>exact same
 |drY _ _ hg=>
  have:=hg.len;exact zv_
 |drN=>exact same
 |@wrt a b s h m _ _ hs e=>
  split
  .refine zw!;unfold setT;simp only;split
   .obtain⟨u,v,e1,e2,_⟩:=dO b he! ao_;have:=l3 a;rw[e1,AY]at this;rw[e2];have br:gV_<=16:=hs;simp only[AY,AW,List.length_zipIdx];omega
   .have:=l3 x;omega
  .exact same
 |cut=>
  split
  .refine zw!;unfold setT;simp only;split
   .unfold cutT;rw[AW];exact same.txt _
   .exact same.txt x
  .exact same
 |set=>
  split
  .exact⟨same.rows,same.its,same.txt⟩
  .exact same
section
variable{M:Mh}{R:D->Mh->Prop}{w:Addr}{rl:Addr->LR}{W:OW}{ρ:Ag}{pre:List D}
theorem bE{i:Nat}{f:e!}{q:WS}{R:m_}(h:cg!)(k:q cf_ M R):Ap (Ba i (wl f)) q ρ M R:=by unfold Ap Ba;rw[Gw h];exact k
theorem c4p{g:WF}{f1 f2 f3 f4:e!}{K:u_}(B:fd!)(Y:g2_)(h3:oy!)(h4:f4 ρ=some d)(k:g [a,b,c,d] M K):Ay 4 g xc_ ρ M K:=by unfold Ay Ac Ak;rw[Gw B,Gw Y,Gw h3,Gw h4];exact pG_
theorem kT(h:pu_)(e:(k==k)=true):knd k ρ=some true:=by rw[b5y h,e]
theorem kF(h:pu_)(e:kb_=false):knd k' ρ=some false:=by rw[b5y h,e]
noncomputable def tl3:WS:=Bj yZ! b7h y0!
noncomputable def tl2:WS:=Bj yY! mU! (Bj yY_ mU_ tl3)
noncomputable def tl1:WS:=Bj yX_ b7j tl2
theorem c0a:b3l=Ap mO! (Ap mP! tl1):=c0b
noncomputable def pL(w:Addr)(x0 d nm:D):Ag:=[x!,N!,some d,fE_,none,none,none,none,none,none]
theorem dv0:Aa 0 zw_=some bq!:=rfl
theorem Zh:Aa 2 zw_=some d:=rfl
noncomputable def DoR(W:OW)(M:Mh)(w:Addr)(rl:dq_)(n d:D)(R:m_):Prop:=∀M' ae W' ρ',wI W n d W'->Dt M' w ae W'->wL M rl M' ae->R cL_ M'
theorem c7u{h n:Int}{hb:Nat}{R:m_}(hL:X_)(wi:El W)(ay:cN_)(hB:eq!)(hn:zo!)(ha:Fv a)(J:Yp b)
  (hR:DoR W M w rl af! ee! R):tl1 (pL w x0 ee! af!) M R:=by
 show"!1";have l1:=ay.rows;have l2:=ay.its;refine ifT (kT Zh b6a) ?_;exact b7i hL wi a! a! hn ha.sd bi J.sd λM' ρ' ae rows' hg cx hF=>hR M' ae _ ρ' (.put ha J hg) cx hF
theorem c2j{hb:Nat}{R:m_}(hL:X_)(wi:El W)(ay:cN_)(hB:eq!)(ha:Fv a)(J:Fv b)(hc:Yp c)
  (hR:DoR W M w rl nm g6! R):tl1 (pL w x0 g6! nm) M R:=by
 show"!1";obtain⟨kb,ke⟩:=Ey J;have l1:=ay.rows;refine Qk (kF Zh Qx) ?_;refine ifT (kT Zh uZ) ?_;refine Ol (c4p dv0 (p1 Zh) (p2 Zh) (p3 Zh) ?_);refine a1i hL wi a! ha.sd J.sd hc.sd bi ke λM' W' B Y cx hF=>?_;by_cases g:a∈W.its/\Lb W b/\¬Wn W.rows a b
 .obtain⟨rows',hg,e⟩:=B g;rw[e]at cx;exact hR M' rl _ _ (.mvY ha J hc g hg) cx hF
 .rw[Y g]at cx;exact hR M' rl _ _ (.mvN ha J hc g) cx hF
theorem c2k{hb:Nat}{R:m_}(hL:X_)(wi:El W)(ay:cN_)(hB:eq!)(ha:Fv a)
  (hR:DoR W M w rl nm g6_ R):tl1 (pL w x0 g6_ nm) M R:=by
 show"!1";have l1:=ay.rows;refine Qk (kF Zh Qy) ?_;refine Qk (kF Zh Pl) ?_;refine ifT (kT Zh vA) ?_;refine Ol (c4p (c:=binn) (d:=.non) dv0 (p1 Zh) rfl rfl ?_);refine a1i (kx:=oz_) hL wi a! ha.sd (Pw _) aH! bi rfl λM' W' B Y cx hF=>?_;by_cases g:a∈W.its/\Lb W binn/\¬Wn W.rows a binn
 .obtain⟨rows',hg,e⟩:=B g;rw[e]at cx;exact hR M' rl _ _ (.drY ha g hg) cx hF
 .rw[Y g]at cx;exact hR M' rl _ _ (.drN ha g) cx hF
theorem c7t{p v:Int}{hb:Nat}{R:m_}(hL:X_)(wi:El W)(ay:cN_)(hB:eq!)(ha:Fv a)(h0:0<=p)(h3:p<=3)
  (hR:DoR W M w rl nm j6_ R):tl1 (pL w x0 j6_ nm) M R:=by
 show"!1";have st:=wI.set (W:=W) (n:=nm) (v:=v) ha h0 h3;refine Qk (kF Zh aC) ?_;refine Qk (kF Zh Wo) ?_;refine Qk (kF Zh Wp) ?_;refine anT (kT Zh b5z) pH! dt_ dt_
 .show"#?";exact b7g hL wi c' bi dv0 Zh h0 h3 λM' cx hF=>hR M' rl _ _ st cx hF
 .show"#>";refine anF (kF Zh Tu) ?_;refine anF (kF Zh aD) ?_;show"#9"
theorem b7f{h n:Int}{s:Str}{hb:Nat}{R:m_}(hL:X_)(wi:El W)(ay:cN_)(hB:eq!)(ha:Fv a)(J:Ur b)(hs:jA!)
  (hR:DoR W M w rl af! ff! R):tl1 (pL w x0 ff! af!) M R:=by
 show"!1";have l2:=ay.its;have l3:=ay.txt a;have st:=wI.wrt (W:=W) (n:=gV!) ha J hs rfl;refine Qk (kF Zh Tt) ?_;refine Qk (kF Zh Rm) ?_;refine Qk (kF Zh Rn) ?_;refine anF (kF Zh uV) ?_;refine anT (kT Zh zP) pH! dt_ dt_
 .show"#?";exact a4l hL wi a! a! c' bi J.sd hs λM' ρ' cx hF=>hR M' rl _ _ st cx hF
 .show"#>";refine anF (kF Zh uW) ?_;show"#9"
theorem c7v{x y z m:Int}{hb:Nat}{R:m_}(hL:X_)(wi:El W)(ay:cN_)(hB:eq!)(ha:Fv a)(h0:0<=z)(B:1<=m)(Y:z+m<=16)
  (hR:DoR W M w rl nm ee_ R):tl1 (pL w x0 ee_ nm) M R:=by
 show"!1";have l2:=ay.its;have l3:=ay.txt a;have st:=wI.cut (W:=W) (n:=nm) (x:=x) (y:=y) ha h0 B Y;refine Qk (kF Zh aE) ?_;refine Qk (kF Zh Wq) ?_;refine Qk (kF Zh Wr) ?_;refine anF (kF Zh a4a) ?_;refine anF (kF Zh Tv) ?_;refine anT (kT Zh b6b) pH! dt_ dt_
 .show"#?";exact b7k (g4:=nm) (r5:=nm) (r6:=nm) (r7:=nm) (r8:=nm) hL wi a! a! c' bi B a! λM' ρ' cx hF=>hR M' rl _ _ st cx hF
 .show"#>";show"#9"
theorem c6f(o:Op):Aq o.v aA_=some o.d:=by simp[Op.v,Aq,Gm,Iw]
theorem Zx(o:Op):Aq o.v I_=some bo_:=by simp[Op.v,Aq,Gm,Iw]
theorem tN(o:Op):Aq o.v aZ_=some (.int o.n):=by simp[Op.v,Aq,Gm,Iw]
theorem c4l{f g:e!}(B:kO_)(Y:kP!):Cf (Ad f (Ad g Ao)) ρ=some hy_:=by simp[Cf,Ad,Ao,B,Y]
theorem c8w{o:Op}{hb:Nat}(hL:X_)(hw:fk!)(hn:o.nm∉pre)(hd:DG o.d)(hu:Nq o.d=none)(ay:cN_)(hB:eq!)
  (hR:∀M' ae W',wI W o.nm o.d W'->Dt M' w ae W'->wL M rl M' ae->R .non M'):a7p [cn!,o.v] M R:=by
 refine j_;rw[c0a];have e3:f2 Aq w! as! zy!=some o.d:=c6f o;refine bE (ρ:=zy!) e3 ?_;have e0:Cf ty! zy_=some o.nm:=c4l (Zx o) (tN o);refine bE (ρ:=zy_) e0 ?_;show tl1 (pL w o.v o.d o.nm) M _;generalize hK:vL_=K;have gr:DoR W M w rl o.nm o.d K:=λM' ae W' ρ' B Y h3=>by rw[<-hK];exact hR M' ae W' B Y h3
 have ux:o.nm∉W.its:=λz=>hn (hw.its _ z);clear hR hK e3 e0 hn;obtain⟨h,n,tm,d⟩:=o;generalize Op.v ⟨h,n,tm,d⟩=v;change tl1 (pL w v d af!) M K;change DoR W M w rl af! d K at gr;change D.tup T_∉W.its at ux;change DG d at hd;change Nq d=none at hu;cases hd with
 |put ha J=>exact c7u hL hw.inv ay hB ux ha J gr
 |move ha J hc=>exact c2j hL hw.inv ay hB ha J hc gr
 |drop ha=>exact c2k hL hw.inv ay hB ha gr
 |write ha J _ _ hs=>exact b7f hL hw.inv ay hB ha J hs gr
 |cut ha hs B Y=>
  obtain⟨_,_,_,e,_,_,_,_,z0,_⟩:=hs;cases e;exact c7v hL hw.inv ay hB ha z0 B Y gr
 |set ha B Y _=>exact c7t hL hw.inv ay hB ha B Y gr
 |undo _=>rw[Ru]at hu;exact absurd hu (by simp[show oI!=true from by decide+kernel])
 |redo _=>rw[Ru]at hu;exact absurd hu (by simp[show oI_=true from by decide+kernel])
end
theorem sE.mono{W:OW}{hb B':Nat}(l:cN_)(h:hb<=B'):sE W B':=⟨BN l.rows h,BN l.its h,λx=>BN (l.txt x) h⟩
section
variable{M:Mh}{R:D->Mh->Prop}{w:Addr}{rl:Addr->LR}{W:OW}{ρ:Ag}{pre:List D}
theorem Dt.keep{M':Mh}(h:X_)(k:x9_):Dt M' w rl W:=by
 show"!y";refine⟨wt,wn,qa,⟨?_,?_,?_,fu!,hA.rw_,hA.rt,hA.rn,bL!⟩⟩
 .rw[k w pv_];exact hA.mw
 .rw[k wt pm!];exact hA.mt
 .rw[k wn yI!];exact hA.mn
 .obtain⟨B,Y⟩:=hA.mq i hi;exact⟨(k _ pn!).trans B,Y⟩
 .rw[k b J];show"#."
theorem Dt.live(h:X_)(J:rl b≠.oth):M b≠none:=by obtain⟨wt,wn,qa,hA⟩:=h;exact hA.live b J
theorem d2o{ep:Nat}{fo fa fb:e!}(hp:bS_)(h0:kT!)(B:pI!)(Y:fb ρ=some z)(hk:ck!)(K:u_)(hK:K ((hB_).getD z) M):Ou df_ ho_ fp_ ρ M K:=by
 have c:Ip M D_=some kH!:=by simp[Ip,hp]
 simp only[Ou,wl,h0,B,Y,c,Ie,hk];exact hK
theorem iB{g:WF}{f1 f2:e!}{K:u_}(B:fd!)(Y:g2_)(k:g ai! M K):Ay 2 g vK_ ρ M K:=by unfold Ay Ac Ak;rw[Gw B,Gw Y];exact pG_
theorem a8d{g:WF}{f1:e!}{K:u_}(B:fd!)(k:g [a] M K):Ay 1 g (Ac jJ! Ak) ρ M K:=by unfold Ay Ac Ak;rw[Gw B];exact pG_
noncomputable def lpC:WT:=Mm tO! tP_
noncomputable def lpB:WS:=Bj lpC tQ_ Di
theorem d1z{ft:WT}{q1 q2:WS}{b:Bool}{R:m_}(h:zD!)(k1:y2!)(k2:y2_):Bj ft q1 q2 ρ M R:=by
 unfold Bj;refine h _ ?_;cases b with
 |true=>rw[j!];exact k1 rfl
 |false=>rw[T!];exact k2 rfl
theorem b8w{ft fu:WT}{b:Bool}{c:Bool}(h:zD!)(Y:b=true->∀K:Bool->Mh->Prop,K c M->fu ρ M K)(K:fw_)(hK:K (b&&c) M):Mm ft fu ρ M K:=by
 unfold Mm;refine h _ ?_;cases b with
 |true=>rw[j!];exact Y rfl K (by simpa using hK)
 |false=>rw[T!];simpa using hK
theorem c1j{e0:Nat}{x:Op}(kg:zE_)(hd:DG x.d)(hp:M p=some (.dct kb e0))(K:fw_)
  (hK:K (decide zF_) M):lpC fG_ M K:=by
 obtain⟨k,r,e,hn,hs⟩:=d2r hd;have i0:f2 Aq md! F_ fG_=some U!:=b6h e;have hu:(! kw!)=decide pI_:=by
  cases hu:Nq x.d with
  |none=>
   obtain⟨B,Y⟩:=hn hu;rw[yr!,yr_,B,Y];rfl
  |some u=>
   obtain⟨g1,g2,hk,ip⟩:=hs u hu;rw[a5i hk];rfl
 obtain⟨kn,f7⟩:=a3n x;have hz:(∃b:Bool,(kget kb x.nm).getD Y_=.bl b/\(b=true↔kget wd x.nm=some b4!)):=by
  rcases kg x.nm with⟨B,Y⟩|⟨k',B,Y⟩
  .exact⟨false,by rw[Y];rfl,by rw[B];simp⟩
  .refine⟨k'=="undo",by rw[Y];rfl,?_⟩;rw[B];show"!J"
   .intro z;rw[eq_of_beq z]
   .intro z;rw[D.str.inj (BZ z)];exact DR _
 obtain⟨b,VG,OJ⟩:=hz;have e2:Cf tP! fG_=some x.nm:=c4l (Zx x) (tN x);refine b8w (b:=decide pI_) (c:=!b) (λK' ub=>?_) (λ_ K' ub=>?_) K ?_
 .unfold wT w2;rw[Gw i0,Gw (f:=fC td!) rfl,zY];show K' (! kw!) M;rw[hu];exact ub
 .unfold Sw wT;refine d2o hp rfl e2 rfl f7 _ ?_;rw[VG];exact ub
 .have:(decide pI_&&!b)=decide zF_:=by
   by_cases c1:Nq x.d=none
   .by_cases c2:kget wd x.nm=some b4!
    .rw[OJ.mpr c2];simp[c2]
    .have:b=false:=by
      cases b with
      |true=>exact absurd (OJ.mp rfl) c2
      |false=>rfl
     rw[this,BJ c1,BJ (⟨c1,c2⟩:_/\_)];rfl
   .rw[AU c1,AU λz:_/\_=>c1 z.1];rfl
  rw[this];exact hK
theorem uG{e0:Nat}(kg:zE_):
  ∀(os:l!) (x1:D) (y:av_) (M:Mh) (rl:dq_) (W:OW) (pre:b!) (hb:Nat) (R:m_),(∀x∈os,DG x.d)->x6!->(o2!).Nodup->Dt M w rl W->WOk W pre->sE W hb->hb+20*ax_<3800->M p=some (.dct kb e0)->rl p=.oth->
   (∀M' ae W' y',Run W o2_ W'->Dt M' w ae W'->x6_->sE W' (hb+20*ax_)->wL M rl M' ae->R (.nx [P_,x!,Q!,y']) M')->
   Kr z! Q_ lpB J_ [P_,x!,Q!,y] M R
 |[],x1,y,M,rl,W,pre,hb,R,_,_,_,hL,hw,ay,_,_,_,hR=>⟨trivial,hR M rl W y .nil hL ⟨pre,hw⟩ (ay.mono a!) .refl⟩
 |x::os,x1,y,M,rl,W,pre,hb,R,hd,hp,nd,hL,hw,ay,hB,wk,jm,hR=>by
  refine aU_;show lpB fG_ M _;simp only[AR]at hB hR;rw[AK,AV]at nd;have jj:=hd x AM;refine d1z (c1j kg jj wk) dt_ dt_
  .have c':=DJ c;have ee:oB wd ht!=x::oB wd os:=by unfold oB;rw[CK zG!]
   refine Ol (iB rfl rfl (c8w hL hw kp_ jj c'.1 ay a! λM1 df W1 hs JQ hF=>?_));show Kr z! Q_ lpB J_ fG_ M1 R;have hq:=hF p (by rw[wk];simp) jm;refine uG kg os x1 o3_ M1 df W1 (pre++[x.nm]) bk! R o4! x8_ nd.2 JQ (b2e hs hw kp_) (ay.stp hs) a! (hq.1.trans wk) hq.2 (λM' ae W' y' g1 g2 g3 g4 g5=>hR M' ae W' y' (by rw[ee];exact .cons hs g1) g2 g3 zG_ (hF.trans g5));rcases AQ.mp z with z|z
   .exact hp y d2! z
   .rw[AT]at z;exact nd.1 x9!
  .have c':=GW c;have ee:oB wd ht!=oB wd os:=by unfold oB;rw[CL zG!]
   show Kr z! Q_ lpB J_ fG_ M R;exact uG kg os x1 o3_ M rl W pre bk! R o4! o4_ nd.2 hL hw (ay.mono a!) a! wk jm (λM' ae W' y' g1 g2 g3 g4 g5=>hR M' ae W' y' (by rw[ee];exact g1) g2 g3 zG_ g5)
theorem d5o{N:Mh}(B:N w=none)(Y:Cg N w E! wt=none)(h3:Cg pJ_ wt E! wn=none):
  ∃rl,Dt (Cg zH_ w zI!) w rl W0/\(∀b,N b≠none->Cg zH_ w zI! b=N b/\rl b=.oth)/\Cg zH! wn E! w=some E!:=by
 have e1:w≠wt:=Bl (N:=Cg N w E!) oX_ Y;have e2:w≠wn:=Bl (N:=pK!) (by rw[mup_ne e1,mup_same];simp) h3;have e3:wt≠wn:=Bl (N:=pK!) oX_ h3;have ao:∀b,N b≠none->b≠w/\b≠wt/\b≠wn:=λb J=>by
  have a1:b≠w:=Bl J B;have a2:b≠wt:=Bl (N:=Cg N w E!) (by rw[hH!];exact J) Y;exact⟨a1,a2,Bl (N:=pK!) (by rw[mup_ne a2,hH!];exact J) h3⟩
 refine⟨λc=>if c=w then .w else if c=wt then .wt else if c=wn then .wn else .oth,⟨wt,wn,λ_=>w,⟨⟨3,mup_same⟩,pK_,pK_,am_,j!,?_,?_,bL!⟩⟩,bL!,?_⟩
 .rw[mup_ne (AI e1),mup_ne e3,mup_same];rfl
 .rw[mup_ne (AI e2),mup_same];rfl
 .show(if wt=w then _ else _)=_;rw[AH (AI e1),j!]
 .show(if wn=w then _ else _)=_;rw[AH (AI e2),AH (AI e3),j!]
 .by_cases a1:b=w
  .rw[a1,mup_same];simp
  .rw[hH!];by_cases a3:b=wn
   .rw[a3,mup_same];simp
   .rw[mup_ne a3];by_cases a2:b=wt
    .rw[a2,mup_same];simp
    .exact absurd (by simp[a1,a2,a3]) J
 .obtain⟨a1,a2,a3⟩:=ao b J;exact⟨by rw[hH!,mup_ne a3,mup_ne a2,hH!],by simp[a1,a2,a3]⟩
 .rw[mup_ne e2,mup_ne e1,mup_same]
theorem c8s:sE W0 0:=⟨BB _,BB _,λ_=>BB _⟩
theorem d1x:((hw_).map a_).Nodup:=by
 show[D.str "rows",pL_,pM!].Nodup;refine AV.mpr ⟨?_,AV.mpr ⟨?_,zK!⟩⟩
 .intro z;rcases AD.mp z with z|z
  .exact c3s z
  .exact c3t pM_
 .intro z;exact c3k pM_
theorem c1n:∀q∈k3 a b c,(Ge q.1).isSome=true:=λq hq=>by
 rcases AD.mp hq with rfl|hq
 .rfl
 .rcases AD.mp hq with rfl|hq
  .rfl
  .rw[AT.mp hq];rfl
theorem a9g:a6e=Ap tN!
 (Ap tN_
 (Ap (Fn eS! z! lpB)
 bJ!)):=rfl
theorem c2l{f:WE->WS}{ρ:Ag}{K:u_}(hK:∀w M' rl,M w=none->Dt M' w rl W0->oU_->K bq! M'):
  aT tM_ ρ M K:=by
 intro w hw;refine pc (x:=.str "rows") rfl ?_;rw[Gw (f:=Hw Ao) (d:=kQ_) rfl];refine pc (x:=pL_) rfl ?_;intro wt ht;refine pc (x:=pM!) rfl ?_;intro wn hn;obtain⟨rl,B,Y,h3⟩:=d5o hw ht hn;show _/\_;exact⟨h3,by show 3<=1000;decide,c1n,d1x,hK w _ rl hw B Y⟩
theorem b8k{ops:l!}(nd:ej!)(nn:yb!)(hl:dn!)(hd:hl_)
  (hR:∀w M' rl W',M w=none->Run W0 (oB hm! aW!) W'->Dt M' w rl W'->yb_->sE W' 1500->oU_->R bq! M'):cO cj_ M R:=by
 refine j_;rw[a9g];have hp:(aW!).Perm ops:=Ew ops;show Ap (Ba 1 (aT _)) _ pe! M _;unfold Ap Ba;refine c2l (f:=λ_=>Di) λw M1 rl hw hL fr=>?_;show Ay 1 Sq aQ! [aW_,x!,none,none] M1 _;refine a8d (a:=hk!) rfl (a3v nd hl hd λp M2 ep ii fm og=>?_);have rp:rl p=.oth:=Classical.byContradiction λz=>hL.live z ii;have um:Dt M2 w rl W0:=hL.keep λc hc=>og c λz=>hc (by rw[z];exact rp);show Fn eS! z! lpB zL_ M2 _;unfold Fn Em;refine a8d (a:=hk!) rfl (lM nd hl ?_);show Kr z! Q_ lpB fn! zL_ M2 _;refine uG (wd:=oT!) (jN aW! [] [] λx=>.inl bK_) aW! _ none M2 rl W0 [] 0 _ (λx L=>hd x yd!) yd_ ye! um c4s c8s kq_ fm rp λM' ae W' y' g1 g2 g3 g4 g5=>?_;refine hR w M' ae W' hw g1 g2 g3 (g4.mono kq_) λb J=>?_;obtain⟨e1,e2⟩:=fr b J;have e3:M2 b=M1 b:=og b λz=>by rw[<-e1,z,ii]at J;exact J rfl
 obtain⟨e4,e5⟩:=g5 b ye_ e2;exact⟨e4.trans (e3.trans e1),e5⟩
theorem nX(h:X_)(L:aS_)(hk:aN_)(hl:zM!)(hj:oG_)(hR:R v M):Nm [cn!,x] M R:=by
 refine j_;show Bz (jP _ (Ea 1 [] tT! _ _ _)) kA! M _;unfold Bz jP Ea Em;rw[b2a (ρ:=kA!) h rfl (fx:=Aa 1) rfl hk L];refine zM_;refine Ft (λd=>match d with|.tup [_,_,.bl b]=>b|_=>false) (λd=>match d with|.tup [_,c,_]=>c|_=>.non) trivial _ _ bU! ?_
 .show"!>";refine⟨[hE!],rfl,kd_,ei!⟩
  .have e1:fT dE! [hE!]=some q.2.2:=by
    have:f2 Aq i_ R! [hE!]=some pw_:=d0d;show"!8"
   unfold Fj;rw[e1];exact hK
  .have e1:f2 Aq i_ v_ [hE!]=some q.2.1:=d0e;rw[Gw e1];exact hK
 .have e2:((((aE_).map Cm).filter λd=>match d with|.tup [_,_,.bl b]=>b|_=>false).map λd=>match d with|.tup [_,c,_]=>c|_=>.non)=(dm!).map ke!:=by
   unfold shn;rw[GC,CB];rfl
  rw[e2];show Ie xt_ _;rw[hj];exact hR
theorem a0w:∀(l:ae!),(∀q∈l,∃c:Nat,q.2.1=.str am!)->∃cs:List Nat,l.map ke!=cs.map eO/\cC_=ai_
 |[],_=>wa_
 |q::l,h=>by
  obtain⟨cs,e1,e2⟩:=a0w l λx L=>h x ch!
  obtain⟨c,e⟩:=h q AM;exact⟨c::cs,by rw[AK,AK,e1,e];rfl,by rw[AR,AR,e2]⟩
theorem b6g(hw:fk!)(L:aS_)(hl:zM!):∃s,Wv iH! xq_=some aw_:=by
 obtain⟨cs,e1,e2⟩:=a0w dm! λq hq=>hw.chr x L q (oH!).1
 have ls:(dm!).length<=(aE_).length:=DO _ _;rw[e1];refine⟨Txt.join dk! g8_,?_⟩;show((jS jV_).bind λys=>if(j4!).sum+Z!*(dk!).length<=big then some (D.str (Txt.join dk! ys))else none)=_;rw[dQ];show kw_=_;rw[AN (by rw[sI,rL];unfold big;omega)]
end
end K10
namespace K10
open PySem L2 DL
variable{t:Bo}
abbrev B60:Nat:=1000000000000000000000000000000000000000000000000000000000000
theorem vQ{i:Int}(h:go!<B60):Ld [bI!]=some C_:=by
 have:iB!<1000000000000000000000000000000000000000000000000000000000000:=by unfold B60 at h;split<;>omega
 push_cast[Ld,lA,this]
theorem vS{i k:Int}(h:go!<B60)(h0:0<=i)(B:i<k):Nd [bI!,g4_]=some C_:=by push_cast[Nd,lC,vQ h,h0,B]
theorem vR{i:Int}(h:go!<B60)(B:1<=i):Ib [bI!]=some C_:=by push_cast[Ib,Yy,vQ h,B]
theorem fI(h:NameG x):Ik [x]=some C_:=by
 obtain⟨a,b,rfl,B,Y,h3,h4⟩:=h
 push_cast[Ik,eH,vS (i:=a) (k:=16) fH! B Y,vR (i:=b) fH! h3]
theorem gY(h:b8j x):Ij [x]=some C_:=by
 obtain⟨a,b,c,rfl,B,Y,h3,h4,h5,h6⟩:=h
 push_cast[Ij,Vp,fI ⟨a,b,rfl,B,Y,h3,h4⟩,vS (i:=c) (k:=16) fH! h5 a!]
theorem aJ(h:Fv x):Nc [x]=some C_:=by
 have n:∀s,Ik [dd_]=some Y_:=λs=>by push_cast[Ik,eH]
 rcases h with rfl|rfl|h
 .push_cast[Nc,Xr,n,Nn]
 .push_cast[Nc,Xr,n,Nn]
 .push_cast[Nc,Xr,fI h]
theorem rN(h:Yp x):Kc [x]=some C_:=by
 rcases h with rfl|h
 .push_cast[Kc,Tg]
 .obtain⟨a,b,rfl,_⟩:=id h
  push_cast[Kc,Tg,fI h]
theorem b7c(h:Ur x):Ln [x]=some C_:=by
 rcases h with rfl|h
 .push_cast[Ln,Vr]
 .obtain⟨a,b,c,rfl,_⟩:=id h
  push_cast[Ln,Vr,gY h]
theorem a7u{i:Int}(h0:0<=i)(B:i<=3):Ia [bI!]=some C_:=by push_cast[Ia,lB,vS (i:=i) (k:=4) fH! h0 a!]
theorem c7o{s:Str}(h:yT s=true)(B:1<=aw!)(Y:jA!):Sn [dd_]=some C_:=by
 unfold yT at h;rw[BI,BM]at h;have hl:aw!<=big:=by unfold big;omega
 have hc:=nN a9! rfl s.cps.toList h.2;have ff:(List.map fm_ s.cps.toList).all id=true:=by simp
 have z1:1<=jU_:=by omega
 have z2:jU_<=16:=by omega
 have hz:gV_<=big:=by simpa[Str.length]using hl
 have JR:He 1 [] (c7j i_) B! a1! ib! [some aw_]=some (.lst zO!):=by
  show(if(s.cps.toList.map λc=>D.str am!).length<=big then Option.map D.lst (Io B! a1! ib! a9! (s.cps.toList.map λc=>.str am!))else none)=_;rw[AW,AN hz,hc];rfl
 have VH:nW [.lst zO!]=some C_:=by
  simp only[nW,nU,GR,ff]
 push_cast[Sn,qI,JR,hl,z1,z2,VH]
theorem c7m(nd:t.nd):Vc t t.A0=some Nc/\Vc t t.A5=some Kc/\Vc t t.A6=some Ln/\Vc t t.A7=some Sn/\Vc t t.A8=some Ij/\
  Vc t t.A9=some Ib/\Vc t t.B0=some Ia/\Vc t t.B1=some Ld/\Vc t t.B2=some Ik:=by
 unfold Bo.nd at nd;simp only[AV,AD,BQ,DK,GN]at nd;unfold Vc;refine⟨?_,?_,?_,?_,?_,?_,?_,?_,?_⟩<;>grind
theorem hW(ρ:Ag)(m6:ρ=pN_):∀(cs:pO!),(∀c∈cs,∃g,Vc t c.1=some g/\g [c.2]=some C_)->
  Io id! a1! id_ ρ kU!=some jL_/\(kU!).length=cC_
 |[],_=>bK_
 |c::cs,h=>by
  have ih:=hW ρ m6 cs λx L=>h x ch!;obtain⟨g,B,Y⟩:=h c AM;subst m6;refine⟨?_,by simp only[AK,Us,AR,ih.2]⟩;simp only[AK,Us,Io,ih.1];simp[nV,Cr,fG,Ad,Aa,Ao,B,Y]
theorem rX:∀(cs:pO!),Zi vS_=some vT!
 |[]=>rfl
 |c::cs=>by simp only[AK,Zi,rX cs,GR]
theorem Rb(cs:pO!)(h:∀c∈cs,∃g,Vc t c.1=some g/\g [c.2]=some C_)(hl:cC_<=1000):
  Og t [.tup pP!,.tup pO_]=some C_:=by
 have hc:=hW pN_ rfl cs h;have hz:cC_<=big:=by unfold big;omega
 have JR:He 2 [] (c7i w! i_) id! a1! id_ [some (.tup pP!),some (.tup pO_)]=some (.lst jL_):=by
  show(if(kU!).length<=big then Option.map D.lst (Io id! a1! id_ pN_ kU!)else none)=_;rw[hc.2,AN hz,hc.1];rfl
 have ff:nW [.lst jL_]=some C_:=by
  simp only[nW,rX,GR];simp
 push_cast[Og,gF,JR,ff]
theorem a0r(x:D)(r:b!):Cy (.tup (x::r)) fi! none=some (.tup r):=by
 have B:HT.sIx (aC!+1) 0 fi!=1:=by
  simp[HT.sIx]
 have Y:HT.sIx (aC!+1) (aC!+1) none=aC!+1:=by simp[HT.sIx]
 simp[Cy,Ha,B,Y]
theorem Qp{k:Str}(hk:(f8_).lookup k=some (.tup fs))(hp:Og t [.tup r,.tup fs]=some C_)(hc:k≠"cut"):Pr t [.tup dj!]=some C_:=by
 have h0:¬(g5!+1=0):=by omega
 have he:Bu (.int (g5!+1)) I_=some Y_:=by simp[Bu,Ct,Ot,Jb,h0]
 push_cast[Pr,eI,he,c2d,hk,a7q,hp,a0r,hc]
theorem c7r(nd:t.nd)(h:DG d):Pr t [d]=some C_:=by
 obtain⟨i1,i2,i3,i4,i5,i6,i7,i8,i9⟩:=c7m nd;have two:∀{a b:Addr×D} {P:pQ!},P a->P b->∀c∈ai!,P c:=λB Y c hc=>by
  simp only[AD,BQ,DK]at hc;rcases hc with rfl|rfl
  .exact B
  .exact Y
 have wm:∀{a b c:Addr×D} {P:pQ!},P a->P b->P c->∀x∈ev_,P x:=λB Y h3 c hc=>by
  simp only[AD,BQ,DK]at hc;rcases hc with rfl|rfl|rfl
  .exact B
  .exact Y
  .exact h3
 have one:∀{a:Addr×D} {P:pQ!},P a->∀x∈[a],P x:=λB c hc=>by rw[AT.mp hc];exact B
 cases h with
 |@put a b B Y=>exact Qp rfl (Rb [fH_,(t.A5,b)] (two fI! ⟨_,i2,rN Y⟩) d_) r!
 |@move a b c B Y h3=>exact Qp rfl (Rb [fH_,(t.A0,b),(t.A5,c)] (wm fI! ⟨_,i1,aJ Y⟩ ⟨_,i2,rN h3⟩) d_) r!
 |@drop a B=>exact Qp rfl (Rb [fH_] (one fI!) d_) r!
 |@write a b s B Y h3 h4 h5=>exact Qp rfl (Rb [fH_,(t.A6,b),(t.A7,.str s)] (wm fI! ⟨_,i3,b7c Y⟩ ⟨_,i4,c7o h3 h4 h5⟩) d_) r!
 |@cut a x y z m B Y h3 h4=>
  have hz:0<=z:=by obtain⟨_,_,_,e,_,_,_,_,q,_⟩:=Y;cases e;exact q
  have hp:=Rb (t:=t) [fH_,(t.A8,.tup js_),(t.A9,.int m)] (wm fI! ⟨_,i5,gY Y⟩ ⟨_,i6,vR fH! h3⟩) d_;have he:Bu (.int 4) I_=some Y_:=by simp[Bu,Ct,Ot,Jb]
  have hk:(f8_).lookup ("cut":Str)=some (.tup rh_):=rfl;simp only[AK,FF]at hp
  push_cast[Pr,eI,he,c2d,hk,a7q,hp,a0r,h4]
 |@set a p n B Y h3 h4=>exact Qp rfl (Rb [fH_,(t.B0,.int p),(t.B1,.int n)] (wm fI! ⟨_,i7,a7u Y h3⟩ ⟨_,i8,vQ h4⟩) d_) r!
 |@undo a B=>exact Qp rfl zQ! r!
 |@redo a B=>exact Qp rfl zQ! r!
theorem d6b{h n m:Int}(nd:t.nd)(B:0<=h)(Y:h<16)(h3:1<=n)(h4:n<=2000)(h5:1<=m)(h6:m<=1000)(hd:DG d):Eo t [.tup [aV!,aK_,d6_,d]]=some C_:=by push_cast[Eo,Vq,fI ⟨h,n,rfl,B,Y,h3,h4⟩,vR (i:=m) fH! h5,c7r nd hd]
theorem Xz(h:NameG x):Ct x=true/\Ot x<=1:=by obtain⟨a,b,rfl,_⟩:=h;simp[Ct,Dw,Ot,Gz]
theorem Jn(h:Fv x):Ct x=true/\Ot x<=1:=by
 rcases h with rfl|rfl|h
 .simp[Ct,Ot]
 .simp[Ct,Ot]
 .exact Xz h
theorem sL(h:Yp x):Ct x=true/\Ot x<=1:=by
 rcases h with rfl|h
 .simp[Ct,Ot]
 .exact Xz h
theorem a5s(h:Ur x):Ct x=true/\Ot x<=1:=by rcases h with rfl|⟨a,b,c,rfl,_⟩<;>simp[Ct,Dw,Ot,Gz]
theorem d2p(h:DG d):Ct d=true/\Ot d<=2:=by
 cases h with
 |put B Y=>simp only[Ct,Dw,Ot,Gz,Jn B,sL Y,EY,HY];have:=(fI_).2;have:=(sL Y).2;omega
 |move B Y h3=>simp only[Ct,Dw,Ot,Gz,Jn B,Jn Y,sL h3,EY,HY];have:=(fI_).2;have:=(Jn Y).2;have:=(sL h3).2;omega
 |drop B=>simp only[Ct,Dw,Ot,Gz,Jn B,EY,HY];have:=(fI_).2;omega
 |write B Y=>simp only[Ct,Dw,Ot,Gz,Jn B,a5s Y,EY,HY];have:=(fI_).2;have:=(a5s Y).2;omega
 |cut B=>simp only[Ct,Dw,Ot,Gz,Jn B,EY,HY];have:=(fI_).2;omega
 |set B=>simp only[Ct,Dw,Ot,Gz,Jn B,EY,HY];have:=(fI_).2;omega
 |undo B=>simp only[Ct,Dw,Ot,Gz,Xz B,EY,HY];have:=(Xz B).2;omega
 |redo B=>simp only[Ct,Dw,Ot,Gz,Xz B,EY,HY];have:=(Xz B).2;omega
variable{t:Bo}
noncomputable def hs(os:l!)(h:Int):List Op:=os.filter λo=>decide hH_
structure Chn(l:l!):Prop where
 num:∀(i:Nat) (o:Op),l[i]?=some o->o.n=cM!+1
 tim:l.Pairwise λa b=>a.tm<b.tm
structure OpF(o:Op):Prop where
 hh:o.h=0\/o.h=5\/o.h=15
 t1:1<=o.tm
 t2:o.tm<=1000
 n1:1<=o.n
 n2:o.n<=2000
 dg:DG o.d
structure Hist(os:l!):Prop where
 ch:∀h,Chn kU_
 op:∀o∈os,OpF o
theorem Chn.nil:Chn []:=⟨λi o e=>by simp at e,jh_⟩
theorem Chn.snoc{l:l!}{o:Op}(h:Chn l)(e:o.n=(ai_:Nat)+1)(ht:∀x∈l,x.tm<o.tm):Chn (l++[o]):=by
 refine⟨λi x L=>?_,?_⟩
 .rcases EL i ai_ with c|c
  .rw[CV c]at L;exact h.num i x L
  .rw[CD c]at L;rcases Nat.eq_zero_or_pos (i - ai_)with z|z
   .rw[z]at L;simp at L;subst L;rw[e];omega
   .rw[CJ b3_]at L;cases L
 .rw[List.pairwise_append];exact⟨h.tim,List.pairwise_singleton _ _,λa ha b J=>by rw[lc!];exact ht a ha⟩
theorem Ez{a b:l!}{h:Int}:hs (a++b) h=hs a h++hs b h:=by unfold hs;rw[IT]
theorem Lc{o:Op}{h:Int}:hs [o] h=if o.h=h then[o]else[]:=by
 unfold hs;by_cases c:o.h=h
 .rw[AN c,CK zR_];rfl
 .rw[AH c,CL zR_];rfl
theorem eY{os:l!}{h:Int}{o:Op}:o∈hs os h↔o∈os/\o.h=h:=by unfold hs;rw[DD];simp
theorem Hist.nil:Hist []:=⟨λh=>Chn.nil,λo ho=>by cases ho⟩
theorem Hist.snoc{os:l!}{o:Op}(h:fJ!)(hf:OpF o)(e:o.n=((hs os o.h).length:Nat)+1)(ht:∀x∈os,x.h=o.h->x.tm<o.tm):Hist (os++[o]):=by
 refine⟨λk=>?_,a7!⟩
 .rw[Ez,Lc];by_cases c:o.h=k
  .rw[AN c];subst c;exact(h.ch _).snoc e λx L=>ht x (eY.mp L).1 (eY.mp L).2
  .rw[AH c,BL];exact h.ch k
 .rcases AQ.mp L with z|z
  .exact h.op x z
  .rw[bY!];exact hf
structure HW(i:Nat)(os:l!)(c0 c1 c2 t0 t1 t2:Int):Prop where
 hist:Hist os
 len:ax_=i
 q0:c0=zS_
 q1:c1=zT!
 q2:c2=zT_
 u0:∀x∈os,x.h=0->x.tm<=t0
 u1:∀x∈os,x.h=5->x.tm<=t1
 u2:∀x∈os,x.h=15->x.tm<=t2
 b0:0<=t0/\t0<=3*i
 b1:0<=t1/\t1<=3*i
 b2:0<=t2/\t2<=3*i
theorem HW.nil:HW 0 [] 0 0 0 0 0 0:=⟨.nil,rfl,rfl,rfl,rfl,pQ_,pQ_,pQ_,I!,I!,I!⟩
theorem OpF.ok{o:Op}(h:OpF o):a4y o.v:=⟨o.h,o.n,o.tm,o.d,rfl,by rcases h.hh with z|z|z<;>omega,by rcases h.hh with z|z|z<;>omega,h.n1,h.n2,h.dg⟩
section
variable{i:Nat}{os:List Op}{c0 c1 c2 t0 t1 t2:Int}{m:Int}{dd:D}
theorem nB(os:l!)(h:Int):(kU_).length<=ax_:=DO _ _
theorem HW.opok(hw:kV_):∀o∈os.map Op.v,a4y o:=λo ho=>by
 obtain⟨x,L,rfl⟩:=AX.mp ho;exact(hw.hist.op x L).ok
theorem c6s(m:Int):0<=m / 3%3/\m / 3%3<3:=⟨EG _ c!,DF _ c!⟩
theorem HW.step0(hw:kV_)(h0:0<=m)(hi:i<100)(hd:DG dd):HW ba! (os++[⟨0,c0+1,t0+1+m / 3%3,dd⟩]) (c0+1) (c1) (c2) (t0+1+m / 3%3) t1 t2:=by
 obtain⟨m1,m2⟩:=c6s m;have hc:=hw.q0;have J:=hw.b0;have hl:=nB os 0;rw[hw.len]at hl;refine⟨hw.hist.snoc ⟨cV!,by show 1<=t0+1+m / 3%3;omega,by show t0+1+m / 3%3<=1000;omega,by show 1<=c0+1;omega,by show c0+1<=2000;omega,hd⟩ (by show c0+1=zS_+1;omega) (λx L hh=>by have:=hw.u0 x L hh;show x.tm<t0+1+m / 3%3;omega),pR_,by rw[Ez,Lc,j!,AY];have:=hw.q0;simp;omega,by rw[Ez,Lc,AH zU!,BL];exact hw.q1,by rw[Ez,Lc,AH zU_,BL];exact hw.q2,cO!,cO!,cO!,pS!,pS_,pT!⟩
 .rcases AQ.mp L with z|z
  .have:=hw.u0 x z hh;omega
  .rw[bY!];exact ET _
 .rcases AQ.mp L with z|z
  .exact hw.u1 x z hh
  .rw[bY!]at hh;exact absurd hh zU!
 .rcases AQ.mp L with z|z
  .exact hw.u2 x z hh
  .rw[bY!]at hh;exact absurd hh zU_
theorem HW.step1(hw:kV_)(h0:0<=m)(hi:i<100)(hd:DG dd):HW ba! (os++[⟨5,c1+1,t1+1+m / 3%3,dd⟩]) (c0) (c1+1) (c2) t0 (t1+1+m / 3%3) t2:=by
 obtain⟨m1,m2⟩:=c6s m;have hc:=hw.q1;have J:=hw.b1;have hl:=nB os 5;rw[hw.len]at hl;refine⟨hw.hist.snoc ⟨.inr aH!,by show 1<=t1+1+m / 3%3;omega,by show t1+1+m / 3%3<=1000;omega,by show 1<=c1+1;omega,by show c1+1<=2000;omega,hd⟩ (by show c1+1=zT!+1;omega) (λx L hh=>by have:=hw.u1 x L hh;show x.tm<t1+1+m / 3%3;omega),pR_,by rw[Ez,Lc,AH zV_,BL];exact hw.q0,by rw[Ez,Lc,j!,AY];have:=hw.q1;simp;omega,by rw[Ez,Lc,AH zW!,BL];exact hw.q2,cO!,cO!,cO!,pS!,pS_,pT!⟩
 .rcases AQ.mp L with z|z
  .exact hw.u0 x z hh
  .rw[bY!]at hh;exact absurd hh zV_
 .rcases AQ.mp L with z|z
  .have:=hw.u1 x z hh;omega
  .rw[bY!];exact ET _
 .rcases AQ.mp L with z|z
  .exact hw.u2 x z hh
  .rw[bY!]at hh;exact absurd hh zW!
theorem HW.step2(hw:kV_)(h0:0<=m)(hi:i<100)(hd:DG dd):HW ba! (os++[⟨15,c2+1,t2+1+m / 3%3,dd⟩]) (c0) (c1) (c2+1) t0 t1 (t2+1+m / 3%3):=by
 obtain⟨m1,m2⟩:=c6s m;have hc:=hw.q2;have J:=hw.b2;have hl:=nB os 15;rw[hw.len]at hl;refine⟨hw.hist.snoc ⟨.inr eZ_,by show 1<=t2+1+m / 3%3;omega,by show t2+1+m / 3%3<=1000;omega,by show 1<=c2+1;omega,by show c2+1<=2000;omega,hd⟩ (by show c2+1=zT_+1;omega) (λx L hh=>by have:=hw.u2 x L hh;show x.tm<t2+1+m / 3%3;omega),pR_,by rw[Ez,Lc,AH zW_,BL];exact hw.q0,by rw[Ez,Lc,AH zX_,BL];exact hw.q1,by rw[Ez,Lc,j!,AY];have:=hw.q2;simp;omega,cO!,cO!,cO!,pS!,pS_,pT!⟩
 .rcases AQ.mp L with z|z
  .exact hw.u0 x z hh
  .rw[bY!]at hh;exact absurd hh zW_
 .rcases AQ.mp L with z|z
  .exact hw.u1 x z hh
  .rw[bY!]at hh;exact absurd hh zX_
 .rcases AQ.mp L with z|z
  .have:=hw.u2 x z hh;omega
  .rw[bY!];exact ET _
end
section
variable{ρ:Ag}
theorem b3p{i:Nat}{fx fv:e!}{j:Int}{ds:b!}{k:Nat}(hv:fv ρ=some d)(L:zY!)(hl:pT_)(hk:Iw ds.length j=some k):a2l i fx fv ρ=some (.nx v9_):=by unfold a2l;rw[hv,L,hl];show(oe_).map _=_;rw[hk];rfl
theorem vE{i:Nat}{fx:e!}{j:Int}(L:zY!)(hl:pT_)(h:Gm ds j=some d):Xf i fx ρ=some d:=by unfold Xf;rw[L,hl];exact h
theorem c8o{i:Nat}{f:e!}{ds:b!}(hf:cg!)(hl:pT_)(J:f_<big):iF i f ρ=some v6_:=by unfold iF;rw[hf,hl];show(if f_<big then _ else _)=_;rw[AN J]
theorem c4z{fs:an!}{ds:b!}(h:hb_)(hl:wm_):Cf fs ρ=some dc_:=by unfold Cf;rw[h];show wn!=_;rw[wn_]
theorem c2e{f:e!}(h:cg!)(n:Iv d=true):cS f ρ=some d:=by unfold cS;rw[h];show(if Iv d=true then _ else _)=_;rw[AN n]
end
theorem b5i{j:Int}:Iu (.int 7) dc!=some (.int (7*j)):=rfl
theorem b1o{ns:A_}{base j m kk a c t:Int}{os cs ts:b!}{dd:D}{k:Nat}(em:Ee [di_,.int (base+7*j)]=some bR!)(ed:Tx [di_,.int (base+7*j+1),.lst os,.int 5]=some dd)(nd:Iv dd=true)(z:m%3=kk)
  (hc:Gm cs kk=some (.int c))(ht:Gm ts kk=some (.int t))(kc:Iw cs.length kk=some k)(kt:Iw ts.length kk=some k)(bp:Gm zZ! kk=some (.int (c+1)))(VI:Gm z0! kk=some zZ_)
  (ha:Gm [D.int 0,.int 5,.int 15] kk=some (.int a))(J:ax_<big):
  a5g [U_,an_,some N,some (.lst os),some (.lst cs),some (.lst ts),some dc!,x7,x8,x9]=some (.nx [U_,an_,some N,some (.lst (os++[.tup [.int a,.int (c+1),.int (t+1+m / 3%3),dd]])),some (.lst zZ!),some (.lst z0!),some dc!,some bR!,some (.int kk),some dd]):=by
 refine(Cs (Pv (nG (Gp rfl (Gp z1! rfl)) em))).trans ?_;refine(Cs (Pv (Mt rfl rfl ((a3q c!).trans gW_)))).trans ?_;refine(Cs (b3p (Mt (vE rfl rfl hc) rfl rfl) rfl rfl kc)).trans ?_;refine(Cs (b3p (Mt (Mt (vE rfl rfl ht) rfl rfl) (Mt (Mt rfl rfl rfl) rfl (a3q c!)) rfl) rfl rfl kt)).trans ?_;refine(Cs (Pv (c2e (nG (Gp rfl (Gp (Mt z1! rfl rfl) (Gp rfl om_))) ed) nd))).trans ?_;exact c8o (c4z (Gp (Mt rfl rfl ha) (Gp (vE rfl rfl bp) (Gp (vE rfl rfl VI) om_))) rfl) rfl J
theorem a8k(ns:A_)(base:Int)(N:Nat)(hN:N<=100):∃os:List Op,So [di_,.int base,.int N]=some er!/\ax_=N/\Hist os:=by
 let P:Nat->Ag->Prop:=λi ρ=>∃(os:l!) (c0 c1 c2 t0 t1 t2:Int) (x6 x7 x8 x9:av_),ρ=z4!/\ax_=i/\HW i os c0 c1 c2 t0 t1 t2
 obtain⟨ρ',e,os,c0,c1,c2,t0,t1,t2,x6,x7,x8,x9,rfl,hl,hw⟩:=bW (bnd:=Dr 6) (q:=a5g) P fh! 0
  kW_
  ⟨[],0,0,0,0,0,0,none,none,none,none,rfl,rfl,HW.nil⟩ (by
   rintro j d ρ hd ⟨os,c0,c1,c2,t0,t1,t2,x6,x7,x8,x9,rfl,hl,hw⟩;unfold Hi at hd;rw[BS]at hd;obtain⟨i',cz,rfl⟩:=AL.mp hd;obtain⟨am,he⟩:=AZ.mp cz;rw[GZ]at he;subst he;rw[EV]at am;have ho:∀o∈os.map Op.v,a4y o:=hw.opok;have j5:(J_).length<=100:=by rw[AW];omega
   obtain⟨m,em,m0,_⟩:=Rl ns (k:=base+7*(j:Nat));obtain⟨dd,ed,hd⟩:=c2n ns (base:=base+7*(j:Nat)+1) (most:=5) ho j5 c! c!;have nd:=a4m hd;have J:(J_).length<big:=by unfold big;omega
   have JO:m%3=0\/m%3=1\/m%3=2:=by omega
   rcases JO with z|z|z
   .exact⟨_,_,rfl,pW!,_,_,_,_,_,_,_,_,_,_,_,pW_,ed_,hw.step0 a! a! hd⟩
   .exact⟨_,_,rfl,pW!,_,_,_,_,_,_,_,_,_,_,_,pW_,ed_,hw.step1 a! a! hd⟩
   .exact⟨_,_,rfl,pW!,_,_,_,_,_,_,_,_,_,_,_,pW_,ed_,hw.step2 a! a! hd⟩)
 refine⟨os,?_,by simpa[Hi]using hl,hw.hist⟩;have hr:-1000<=(N:Int)/\(N:Int)<=100000:=by omega
 have hf:oK (Km y!) eQ_ a5g kW_=some (.nx z4!):=by
  have hi:Km y! kW_=some fh!:=by
   simp[Km,Aa,hr]
  unfold oK;rw[hi];exact e
 have hq:lF z5_=some (.rt er!):=by
  show sSeq (Vn 3 Ao) (sSeq (Vn 4 iN!) (sSeq (Vn 5 iN!) (sSeq (oK (Km y!) eQ_ a5g) (Cw G_)))) _=_;rw[Cs (ρ':=[U_,an_,hJ_,fx_,none,none,none,none,none,none]) rfl];rw[Cs (ρ':=[U_,an_,hJ_,fx_,pV_,none,none,none,none,none]) rfl];rw[Cs (ρ':=kW_) rfl];rw[Cs hf];rfl
 unfold So Eu;rw[gM!];show(match lF z5_ with|some (.rt d)=>some d|some (.nx _)=>some .non|none=>none)=_;rw[hq]
theorem d1f{o:Op}(nd:t.nd)(h:OpF o):Eo t [o.v]=some C_:=by
 have a1:0<=o.h/\o.h<16:=by rcases h.hh with z|z|z<;>omega
 exact d6b nd a1.1 a1.2 h.n1 h.n2 h.t1 h.t2 h.dg
theorem b5g{β:Type}{f:Op->β}(hf:∀a b,f a=f b->a.h=b.h):∀(os:l!),(∀h,((kU_).map f).Nodup)->(os.map f).Nodup
 |[],_=>FR
 |o::os,H=>by
  have sub:∀h,(kU_).Sublist (hs hs_ h):=λh=>by unfold hs;exact(List.sublist_cons_self o os).filter _
  rw[AK,AV];refine⟨cH_,b5g hf os λh=>((sub h).map f).nodup (H h)⟩;obtain⟨x,L,e⟩:=AX.mp z;have hh:=hf _ _ e;have H1:=H o.h;have:hs hs_ o.h=o::hs os o.h:=by unfold hs;rw[CK d_]
  rw[this,AK,AV]at H1;exact H1.1 (AX.mpr ⟨x,eY.mpr ⟨L,hh⟩,e⟩)
theorem Hist.names{os:l!}(h:fJ!):(o2!).Nodup:=by
 refine b5g z6_ os λk=>?_
 .show"#@";exact e.1
 .have hn:=(h.ch k).num;rw[GU,JA,HB];intro i j hi hj MH e;have e1:=hn i _ (BA hi);have e2:=hn j _ (BA hj);show"#@";omega
theorem Hist.keys{os:l!}(h:fJ!):(os.map Op.key).Nodup:=by
 refine b5g z6_ os λk=>?_
 .simp only[Op.key,DM]at e;exact e.2
 .rw[GU,JA];refine(h.ch k).tim.imp λ{a b} kz e=>?_;simp only[Op.key,DM]at e;omega
theorem c1y{p:hU!}{os:l!}{h:Int}:hs kX_ h=hs os h:=by
 rw[Ez];unfold hs;rw[GE,GE];cases c:p h with
 |true=>
  have e1:z7!=os.filter λo=>decide hH_:=DZ λo _=>by
   show"#)"
   .rw[z,c];simp
   .simp[z]
  have e2:z7_=[]:=GI.mpr λo _=>by
   show"#)"
   .rw[z,c];simp
   .simp[z]
  rw[e1,e2,BL]
 |false=>
  have e1:z7_=os.filter λo=>decide hH_:=DZ λo _=>by
   show"#)"
   .rw[z,c];simp
   .simp[z]
  have e2:z7!=[]:=GI.mpr λo _=>by
   show"#)"
   .rw[z,c];simp
   .simp[z]
  rw[e1,e2,CT]
theorem Hist.part{os:l!}(h:fJ!)(p:hU!):Hist kX_/\(kX_).Perm os:=by have hp:(kX_).Perm os:=List.filter_append_perm _ os;exact⟨⟨λk=>by rw[c1y];exact h.ch k,λo ho=>h.op o z8!⟩,hp⟩
end K10
namespace K10
open PySem L2 DL
open Classical
noncomputable def Pu(f:WE)(ρ:Ag)(M:Mh)(d:D):Prop:=∀K:D->Mh->Prop,K d M->f ρ M K
noncomputable def PuT(f:WT)(ρ:Ag)(M:Mh)(b:Bool):Prop:=∀K:Bool->Mh->Prop,K b M->f ρ M K
noncomputable def sD(g:WF)(ds:b!)(M:Mh)(d:D):Prop:=∀K:D->Mh->Prop,K d M->g ds M K
section
variable{M:Mh}{ρ:Ag}
theorem Vw{α:Type}{x:α}{R:pp!}(h:R x):Ie gd! R:=h
theorem Cc{f:e!}(h:cg!):Pu (wl f) ρ M d:=λK hK=>by rw[Gw h];exact hK
theorem Ow{a:Addr}{fs:aN!}{fo:WE}(h:Pu fo ρ M cB_)(hM:M a=some g2!)(hv:fs.lookup x=some v):Pu (Bs C x fo) ρ M v:=λK hK=>by
 unfold Bs;refine h _ ?_;have:Mo C x M cB_=some v:=by simp only[Mo,hM,CF,hv]
 rw[this];exact hK
theorem Ox{g:bp!}{fa fb:WE}(ha:Pu fa ρ M x)(J:Pu fb ρ M y)(hg:z9!):Pu (w2 g fa fb) ρ M d:=λK hK=>by
 unfold w2;refine ha _ (J _ ?_);rw[hg];exact hK
theorem lG{ep:Nat}{fo fa fb:WE}(ho:Pu fo ρ M D_)(ha:Pu fa ρ M y)(J:Pu fb ρ M z)(hp:bS_)(hk:ck!)(hd:(hB_).getD z=d):Pu (Ou fo fa fb) ρ M d:=λK hK=>by
 have c:Ip M D_=some kH!:=by simp[Ip,hp]
 unfold Ou;refine ho _ ?_;rw[c];refine ha _ (J _ ?_);rw[c,hk];show K ((hB_).getD z) M;rw[hd];exact hK
theorem a6h{g:hz_}{f:WE}(h:Pu f ρ M x)(hg:g M [x]=some d):Pu (w1 g (Ac f Ak)) ρ M d:=λK hK=>by
 unfold w1 Ac Ak;refine h _ ?_;show Ie (g M [x]) λd=>K d M;rw[hg];exact hK
theorem Vu{g:WF}{f1:WE}{a:D}(B:kZ!)(hg:sD g [a] M d):Pu (Ay 1 g (Ac f1 Ak)) ρ M d:=λK hK=>by
 unfold Ay Ac Ak;exact B _ kZ_
theorem Ii{g:WF}{f1 f2:WE}{a:D}(B:kZ!)(Y:Pu f2 ρ M b)(hg:sD g ai! M d):Pu (Ay 2 g (Ac f1 (Ac f2 Ak))) ρ M d:=λK hK=>by
 unfold Ay Ac Ak;exact B _ (Y _ kZ_)
theorem yG{g:WF}{f1 f2 f3:WE}{a:D}(B:kZ!)(Y:Pu f2 ρ M b)(h3:Pu f3 ρ M c)(hg:sD g ev_ M d):Pu (Ay 3 g (Ac f1 (Ac f2 (Ac f3 Ak)))) ρ M d:=λK hK=>by
 unfold Ay Ac Ak;exact B _ (Y _ (h3 _ kZ_))
theorem Kq{g:WF}{fo f1:WE}{a:D}(h0:Pu fo ρ M ae_)(ho:Gg C m M ae_)(B:kZ!)(hg:sD g [a8_,a] M d):Pu (Bx C m 2 g fo (Ac f1 Ak)) ρ M d:=λK hK=>by
 unfold Bx Ac Ak;exact h0 _ ⟨ho,B _ kZ_⟩
theorem eK{f:WE}{b:Bool}(h:Pu f ρ M bI_):PuT (wT f) ρ M b:=λK hK=>by unfold wT;exact h _ hK
theorem yF{f:aa!}{b:Bool}(h:f ρ=some b):PuT (Fj f) ρ M b:=λK hK=>by unfold Fj;rw[h];exact hK
theorem b3s{f:WT}{b:Bool}(h:PuT f ρ M b):PuT (Sw f) ρ M (!b):=λK hK=>by unfold Sw;exact h _ hK
theorem Zl{i:Nat}{f:WE}{q:WS}{R:m_}(h:k0!)(k:q cf_ M R):Ap (Ba i f) q ρ M R:=by unfold Ap Ba;exact h _ k
theorem Hz{f:WE}{R:m_}(h:k0!)(k:R bm_ M):Bz f ρ M R:=by unfold Bz;exact h _ k
theorem a1z{ft:WT}{q1 q2:WS}{R:m_}(h:PuT ft ρ M true)(k:q1 ρ M R):Bj ft q1 q2 ρ M R:=by unfold Bj;refine h _ ?_;rw[j!];exact k
theorem kA{ft:WT}{q1 q2:WS}{R:m_}(h:k0_)(k:eg_):Bj ft q1 q2 ρ M R:=by unfold Bj;refine h _ ?_;rw[T!];exact k
theorem Qu{ft:WT}{q1 q2:WS}{R:m_}(h:k0_)(k:eg_):Ap (Bj ft q1 Di) q2 ρ M R:=by unfold Ap;exact kA h k
noncomputable def SfT(C:Addr)(x:Str)(fo:e!)(ρ:Ag)(y:D)(M:Mh)(Q:bE!):Prop:=wl fo ρ M λd M2=>match d with
 |.fn p=>(match M2 p with|some (.obj C' fs)=>C'=C/\bs!<100/\Q (Cg M2 p pA_)|_=>False)
 |_=>False
theorem iS{fo:e!}{f:WE}{R:m_}(h:f ρ M λy M1=>SfT C x fo ρ y M1 λM2=>R aG! M2):Hm C x df_ f ρ M R:=h
theorem kN{fo:e!}{f:WE}{q:WS}{R:m_}(h:f ρ M λy M1=>SfT C x fo ρ y M1 λM2=>q ρ M2 R):Ap (Hm C x df_ f) q ρ M R:=h
theorem Tb{fs uv:aN!}{fo:e!}{Q:bE!}(h0:kT!)(hM:M p=some g2!)(hl:bs!<100)(hf:Dk x y fs=uv)(k:Q (Cg M p (.obj C uv))):SfT C x fo ρ y M Q:=by unfold SfT;rw[Gw h0];show(match M p with|some (.obj C' fs)=>C'=C/\bs!<100/\Q (Cg M p pA_)|_=>False);rw[hM];subst hf;exact⟨rfl,hl,k⟩
end
theorem Tk(h:cG_)(hd:Ot d<=40):Fw d d=some Y_:=by unfold Fw;rw[h,nI d h,BJ hd];rfl
theorem Mz:∀{ds:b!},(∀d∈ds,Ct d=true)->Dw ds=true
 |[],_=>by simp[Dw]
 |d::ds,h=>by
  unfold Dw;rw[h d AM,Mz λx L=>h x ch!];rfl
theorem Qo{n:Nat}:∀{ds:b!},(∀d∈ds,Ot d<=n)->Gz ds<=n
 |[],_=>by simp[Gz]
 |d::ds,h=>by
  unfold Gz;have B:=h d AM;have Y:=Qo λx L=>h x (AE d L);omega
theorem tM{o:Op}(h:DG o.d):Ct o.v=true/\Ot o.v<=5:=by
 obtain⟨B,Y⟩:=d2p h;show"!J"
 .show Dw kf_=true;refine Mz λd hd=>?_;simp only[AD,BQ,DK]at hd;rcases hd with rfl|rfl|rfl|rfl
  .rfl
  .rfl
  .rfl
  .exact B
 .show Gz kf_+1<=5;have:Gz kf_<=2:=Qo λd hd=>by
   simp only[AD,BQ,DK]at hd;rcases hd with rfl|rfl|rfl|rfl
   .simp[Ot]
   .simp[Ot]
   .simp[Ot]
   .exact Y
  omega
noncomputable def hF(ta wa:Addr)(out:D):List ci!:=[("ours",.int 3),("taken",.fn ta),("waiting",.fn wa),("outline",out)]
section
variable{ta wa:Addr}{out:D}
theorem hF1:List.lookup Aa_ dw!=some (D.int 3):=by kernel_rfl
theorem hF2:List.lookup Ab! dw!=some (D.fn ta):=by kernel_rfl
theorem hF3:List.lookup Ac! dw!=some (D.fn wa):=by kernel_rfl
theorem hF4:List.lookup pY! dw!=some out:=by kernel_rfl
theorem hM1:List.lookup (Str.ofString "have") dw!=none:=by kernel_rfl
theorem hP1:Dk Aa_ aA_ []=[fL_]:=by kernel_rfl
theorem hP2:Dk Ab! (.fn ta) [fL_]=k1!:=by kernel_rfl
theorem hP3:Dk Ac! (.fn wa) k1!=k1_:=by kernel_rfl
theorem hP4:Dk pY! .non k1_=hF ta wa .non:=by kernel_rfl
theorem hP5:Dk pY! o2 dw!=hF ta wa o2:=by kernel_rfl
end
structure Ek(t:Bo)(M:Mh)(a ta wa:Addr)(out:D)(S:l!)(kl:A_)(ca:k2_):Prop where
 ob:M a=some (.obj t.B3 dw!)
 tk:∃ep,M ta=some (.dct fM! ep)
 wt:M wa=some cJ!
 cl:∀h∈kl,M hK!=some (.lst ((k3!).map Op.v))
 nk:kl.Nodup
 mem:∀h,h∈kl↔hs S h≠[]
 cw:∀h∈kl,ca h≠wa
 ci:∀h∈kl,∀h'∈kl,ca h=ca h'->h=h'
 len:pY_<=k3_
theorem Pq{g:Int->D}:∀{kl:A_} {x:Int},kget (kl.map λh=>(D.int h,g h)) (.int x)=if x∈kl then some (g x)else none
 |[],x=>by simp[kget]
 |k::kl,x=>by
  rw[AK];unfold kget;by_cases e:k=x
  .subst e;simp
  .rw[AH λz=>e (D.int.inj z),Pq];simp[AI e]
section
variable{t:Bo}{M:Mh}{a ta wa:Addr}{out:D}{S:List Op}{kl:List Int}{ca:Int->Addr}
theorem Ek.nob(hA:br!)(hm:(dw!).lookup m=none):Gg t.B3 m M cB_:=by show(match M a with|some (.obj C' fs)=>C'=t.B3/\fs.lookup m=none|_=>False);rw[hA.ob];exact⟨rfl,hm⟩
theorem Ek.nol(hA:br!){h:Int}(hh:h∉kl):hs S h=[]:=Classical.byContradiction λz=>hh ((hA.mem h).mpr z)
theorem Ek.keep{M':Mh}(hA:br!)(k:∀b,M b≠none->M' b=M b):Ek t M' a ta wa out S kl ca:=by obtain⟨ep,ht⟩:=hA.tk;exact{hA with ob:=(k a hK_).trans hA.ob,tk:=⟨ep,(k ta k4_).trans ht⟩,wt:=(k wa k5!).trans hA.wt,cl:=λh hh=>(k _ pZ!).trans (hA.cl h hh)}
theorem vN{h:Int}(hA:br!):sD (Ix t) [ah!,aV!] M pZ_:=λK hK=>by
 obtain⟨ep,ht⟩:=hA.tk;refine j_;show Bz r3! [q_,hL!] M _;by_cases c:h∈kl
 .have hl:a3z M [.fn hK!]=some pZ_:=by
   show((sO M (.fn hK!)).map λxs=>D.int k_)=_;simp only[sO,hA.cl h c,GR,AW]
  exact Hz (a6h (lG k5_ k6! Af! ht (k:=p0!) rfl (by rw[Pq,AN c];rfl)) hl) hK
 .have hl:a3z M [kQ_]=some pZ_:=by rw[hA.nol c];rfl
  exact Hz (a6h (lG k5_ k6! Af! ht (k:=p0!) rfl (by rw[Pq,AH c];rfl)) hl) hK
theorem sH{o:Op}(hA:br!):sD (Lm t) k6_ M (.bl (decide (o.n<=fM_))):=λK hK=>by
 refine j_;show Bz r7! hL_ M _;exact Hz (Ox (Cc (tN o)) Af_ rfl) hK
theorem a4b{o:Op}(hA:br!):sD (Nb t) k6_ M (.bl (o.n==fM_+1)):=λK hK=>by
 refine j_;show Bz r7_ hL_ M _;exact Hz (Ox (Cc (tN o)) (Ox Af_ Ag! (d:=.int (fM_+1)) rfl) (cV _ _)) hK
theorem uH{h:Int}(hA:br!)(e:hs S h=[]):sD (Of t) [ah!,aV!] M I_:=λK hK=>by
 refine j_;show Ap r8! _ [q_,hL!] M _;unfold Ap;refine a1z (eK (Ox (Kq bX_ (hA.nob hM1) k6! (vN hA)) k8! ?_)) (Hz k8! hK);rw[e];exact cV _ _
theorem b0l{ρ:Ag}{R:u_}(hR:∀a ta wa M',M a=none->Ek t M' a ta wa .non [] [] (λ_=>a)->xO_->R cB_ M'):Np t.B3 2 (Sr t) t3! ρ M R:=by
 unfold Np Ac Ak;rw[Gw (f:=fC aA_) (d:=.int 3) rfl];refine⟨rfl,λa ha=>j_⟩;show Ap r1_ r2! [q_,some aA_] Ag_ _;refine kN ?_;rw[Gw (f:=Aa 1) (d:=.int 3) rfl];refine Tb (fs:=[]) rfl mup_same c! hP1 ?_;generalize e1:Cg Ag_ a Ah!=M1;have a1:M1 a=some Ah!:=by rw[<-e1];exact mup_same
 have o1:∀b,b≠a->M1 b=M b:=λb J=>by rw[<-e1,bp_,bp_]
 refine kN ?_;intro ta OK;have wp:a≠ta:=Bl (by rw[a1];simp) OK;refine Tb (fs:=[fL_]) rfl ((mup_ne wp).trans a1) c! hP2 ?_;generalize e2:Cg (Cg M1 ta E!) a Ah_=M2;have a2:M2 a=some Ah_:=by rw[<-e2];exact mup_same
 have OL:M2 ta=some E!:=by rw[<-e2,Ai!];exact mup_same
 have o2:∀b,b≠a->b≠ta->M2 b=M b:=λb J hc=>by rw[<-e2,bp_,mup_ne hc];exact o1 b J
 refine kN ?_;refine⟨Z_,λwa JS=>?_⟩;have JT:a≠wa:=Bl (by rw[a2];simp) JS;have VJ:ta≠wa:=Bl (by rw[OL];simp) JS;refine Tb (fs:=k1!) rfl ((mup_ne JT).trans a2) Aj_ hP3 ?_;generalize e3:Cg (Cg M2 wa cJ!) a Ak!=M3;have a3:M3 a=some Ak!:=by rw[<-e3];exact mup_same
 have o3:∀b,b≠a->b≠wa->M3 b=M2 b:=λb J hc=>by rw[<-e3,bp_,mup_ne hc]
 have w3:M3 wa=some cJ!:=by rw[<-e3,Ak_];exact mup_same
 refine iS ?_;rw[p0_];refine Tb (fs:=k1_) rfl a3 Aj_ hP4 ?_;refine⟨rfl,hR a ta wa _ ha ⟨mup_same,pK_,?_,p1_,FR,λh=>by simp[hs],p1_,p1_,BB _⟩ λb J=>?_⟩
 .rw[Ai!,o3 ta (AI wp) VJ];exact OL
 .rw[Ak_];exact w3
 .have ba:b≠a:=Bl J ha;have bt:b≠ta:=Bl (N:=M1) (by rw[o1 b ba];exact J) OK;have bw:b≠wa:=Bl (N:=M2) (by rw[o2 b ba bt];exact J) JS;rw[mup_ne ba,o3 b ba bw,o2 b ba bt]
end
section
variable{t:Bo}{M:Mh}{ρ:Ag}{a ta wa:Addr}{out:D}{S:List Op}{kl:List Int}{ca:Int->Addr}
theorem Fb{ep:Nat}(hp:bS_):Ip M D_=some kH!:=by simp[Ip,hp]
theorem fR(hp:M p=some L!):dA M D_=some (p,xs):=by simp[dA,hp]
noncomputable def ApT(fa:e!)(ρ:Ag)(d:D)(M:Mh)(R:u_):Prop:=Ie (dA M d) λ_=>wl fa ρ M λv M2=>Ie (dA M2 d) λq=>pr!<big/\R .non yP_
theorem b9p{fo:WE}{fa:e!}{q:WS}{R:m_}(h:fo ρ M λd M1=>ApT fa ρ d M1 λ_ M2=>q ρ M2 R):Ap (En (wQ fo ho_)) q ρ M R:=h
theorem a1b{xs:b!}{f:e!}{R:u_}(hp:M p=some L!)(hf:f ρ=some v)(hl:k_<big)(k:R .non (Cg M p (.lst (xs++[v])))):ApT f ρ D_ M R:=by unfold ApT;rw[fR hp];refine Vw ?_;rw[Gw hf,fR hp];exact Vw ⟨hl,k⟩
theorem b9m{kvs:h_}{ep:Nat}{fo:WE}{fa:e!}{K:u_}(ho:Pu fo ρ M D_)(B:pI!)(hp:bS_)(hk:ck!)(hl:dr!)
  (ao:∀q v,M q=none->kget kvs y=some v->K v fN_)(new:∀q,M q=none->kget kvs y=none->K bB! Al_):Pi fo ho_ (Yq Ak) ρ M K:=by
 unfold Pi;refine ho _ ?_;rw[Fb hp];refine Vw ?_;rw[Gw B];refine⟨Z_,kj!⟩;have pq:p≠q:=Bl Am! hq;show Ie (Ip fN_ D_) _;rw[Fb ((mup_ne pq).trans hp)];refine Vw ?_;rw[hk];refine Vw ⟨hl,?_⟩;show(match kget kvs y with|some v=>K v fN_|none=>K bB! Al_);cases e:kget kvs y with
 |some v=>exact ao q v hq e
 |none=>exact new q hq e
theorem b1d{o:Op}{R:u_}(hA:br!)(hS:hM_)(hR:∀M' g7 g8,Ek t M' a ta wa .non (S++[o]) g7 g8->R .non M'):Xb t k6_ M R:=by
 obtain⟨ep,ht⟩:=hA.tk;refine j_;show Ap sl_ mf! hL_ M _;refine b9p ?_;have i0:f2 Aq w! F_ hL_=some bo_:=Zx o;have VL:pY_<64:=EM hA.len hS;have JU:(k7!).length<64:=EM (nB S o.h) hS;have at_:a≠ta:=λz=>by have:=hA.ob;rw[z,ht]at this;cases this
 have aw:a≠wa:=λz=>by have:=hA.ob;rw[z,hA.wt]at this;cases this
 have tw:ta≠wa:=λz=>by rw[z,hA.wt]at ht;cases ht
 have cA:∀h∈kl,ca h≠a:=λh hh z=>by have:=hA.cl h hh;rw[z,hA.ob]at this;cases this
 have cT:∀h∈kl,ca h≠ta:=λh hh z=>by have:=hA.cl h hh;rw[z,ht]at this;cases this
 refine b9m (k:=p3!) k5_ i0 ht rfl dt! (λq v hq e=>?_) (λq hq e=>?_)
 .have aq:a≠q:=Bl hK_ hq;have tq:ta≠q:=Bl k4_ hq;have wq:wa≠q:=Bl k5! hq;have cq:∀h∈kl,ca h≠q:=λh hh=>Bl pZ! hq;rw[Pq]at e;have c:o.h∈kl:=by
   by_cases c:o.h∈kl
   .exact c
   .rw[AH c]at e;cases e
  rw[AN c]at e;cases e;refine a1b (p:=ca o.h) (v:=o.v) ((mup_ne (cq _ c)).trans (hA.cl _ c)) rfl dt! ?_;generalize e2:Cg fN_ (ca o.h) An_=M2;have m2:∀b,b≠q->b≠ca o.h->M2 b=M b:=λb B Y=>by rw[<-e2,cA!,cc!]
  have VM:M2 (ca o.h)=some An_:=by rw[<-e2];exact mup_same
  show Ao!;refine iS ?_;rw[p0_];refine Tb (fs:=hF ta wa out) rfl ((m2 a aq (AI (cA _ c))).trans hA.ob) p3_ hP5 ?_;refine hR _ kl ca ⟨mup_same,⟨ep,?_⟩,?_,p4!,hA.nk,λh=>?_,hA.cw,hA.ci,?_⟩
  .rw[Ao_,m2 ta tq (AI (cT _ c))];exact ht
  .rw[Ap!,m2 wa wq (AI (hA.cw _ c))];exact hA.wt
  .rw[mup_ne (cA h hh),Ez,Lc];show"#)"
   .rw[AN z,<-z,VM,BK];rfl
   .rw[AH z,BL,m2 _ (cq h hh) λy=>z (hA.ci _ hh _ c y).symm];exact hA.cl h hh
  .rw[Ez,Lc];show"#)"
   .rw[AN z];subst z;simp[c]
   .rw[AH z,BL];exact hA.mem h
  .rw[AY];have:=hA.len;omega
 .have aq:a≠q:=Bl hK_ hq;have tq:ta≠q:=Bl k4_ hq;have wq:wa≠q:=Bl k5! hq;have cq:∀h∈kl,ca h≠q:=λh hh=>Bl pZ! hq;rw[Pq]at e;have c:o.h∉kl:=by
   by_cases c:o.h∈kl
   .rw[AN c]at e;cases e
   .exact c
  have ou:Bk fM! bo_ bB!=fM!++Ap_:=Qg (λz=>by
   rw[CB]at z;obtain⟨x,L,ex⟩:=AX.mp z;exact c (by rw[<-D.int.inj ex];exact L))
  rw[ou];refine a1b (p:=q) (v:=o.v) (xs:=[]) ((mup_ne (AI tq)).trans mup_same) rfl c! ?_;generalize e2:Cg (Cg fN_ ta Aq!) q (.lst ([]++[o.v]))=M2;have m2:∀b,b≠q->b≠ta->M2 b=M b:=λb B Y=>by rw[<-e2,cc!,cA!,cc!]
  have VN:M2 q=some (.lst [o.v]):=by rw[<-e2];exact mup_same
  have VO:M2 ta=some Aq!:=by rw[<-e2,mup_ne tq];exact mup_same
  show Ao!;refine iS ?_;rw[p0_];refine Tb (fs:=hF ta wa out) rfl ((m2 a aq at_).trans hA.ob) p3_ hP5 ?_;have nc:∀h∈kl,h≠o.h:=λh hh z=>c (z▸hh);have y8:hs S o.h=[]:=hA.nol c;refine hR _ (kl++[o.h]) (λh=>if h=o.h then q else ca h) ⟨mup_same,⟨ep+1,?_⟩,?_,p4!,?_,λh=>?_,p4!,λh hh h' oi ee=>?_,?_⟩
  .rw[Ao_,VO,BK];congr 3
   .apply CW;intro h hh;show _=(D.int h,D.fn k9_);rw[AH (nc h hh)]
   .show _=[(D.int o.h,D.fn (if o.h=o.h then q else ca o.h))];rw[j!]
  .rw[Ap!,m2 wa wq (AI tw)];exact hA.wt
  .show Cg M2 a _ k9_=_;by_cases z:h=o.h
   .rw[AN z,mup_ne (AI aq),VN,z,Ez,Lc,j!,y8];rfl
   .have oi:h∈kl:=(AQ.mp hh).resolve_right λy=>z p6_;rw[AH z,mup_ne (cA h oi),m2 _ (cq h oi) (cT h oi),Ez,Lc,AH (AI z),BL];exact hA.cl h oi
  .rw[BO];exact⟨hA.nk,zK!,λx L y hy=>by rw[AT.mp hy];exact nc x L⟩
  .rw[Ez,Lc,AQ,AT];show"#)"
   .rw[AN z];simp[z]
   .rw[AH z,BL,<-hA.mem h];simp[AI z]
  .show k9_≠wa;by_cases z:h=o.h
   .rw[AN z];exact AI wq
   .rw[AH z];exact hA.cw h ((AQ.mp hh).resolve_right λy=>z p6_)
  .have g:∀x,x∈kl++[o.h]->x≠o.h->x∈kl:=λx L z=>(AQ.mp L).resolve_right λy=>z p6_;have qj:k9_=(if h'=o.h then q else ca h'):=ee;by_cases z:h=o.h
   .by_cases z':h'=o.h
    .rw[z,z']
    .rw[AN z,AH z']at qj;exact absurd qj.symm (cq h' (g h' oi z'))
   .by_cases z':h'=o.h
    .rw[AH z,AN z']at qj;exact absurd qj (cq h (g h hh z))
    .rw[AH z,AH z']at qj;exact hA.ci h (g h hh z) h' (g h' oi z') qj
  .rw[AY,AY];have:=hA.len;simp;omega
theorem a2y{f:WE}{nl:Nat}{ix:k!}{bnd:af_}{ft:WT}{fe:WE}(h:Pu f ρ M D_)(hp:M p=some cJ!):Pu (Ea nl ix (Em f) bnd ft fe) ρ M cJ!:=λK hK=>by
 unfold Ea Em;refine h _ ?_;show(match M p with|some (.lst xs)=>_|_=>False);rw[hp];exact⟨CG _,hp,hK⟩
theorem a8s{ft:WT}{q q2:WS}{R:m_}(h:k0_)(k:eg_):Ap (Kf ft q) q2 ρ M R:=by unfold Ap Kf;refine e5!;unfold Ga;refine h _ ?_;rw[T!];exact k
theorem dH(hA:br!):sD (Il t) [ah!] M I_:=λK hK=>by
 refine j_;show Ap (Ba 1 a2!) (Ap (Ba 2 (Ea 1 [0] (Em eK_) B! _ _)) (Ap (Kf sn_ _) bJ!)) Ar_ M _;refine Zl k8! ?_;refine Zl (a2y (Ow bX_ hA.ob hF3) hA.wt) ?_;refine a8s (yF rfl) ?_;exact Hz k8! hK
theorem a2r{o:Op}{R:u_}(hA:br!)(hS:hM_)(hn:o.n=fM_+1)(hR:∀M' g7 g8,Ek t M' a ta wa .non (S++[o]) g7 g8->R aZ_ M'):Sm t k6_ M R:=by
 refine j_;show Ap sq! _ la_ M _;have L:PuT so_ la_ M true:=by
  have e:(o.n==fM_+1)=true:=by rw[hn];exact DR _
  have:=eK (Ii (ρ:=la_) As! (Cc (f:=Aa 1) rfl) (a4b (o:=o) hA));rw[e]at this;exact this
 unfold Ap;refine a1z L ?_;refine Ol (iB rfl rfl (b1d hA hS λM' g7 g8 iq=>?_));show Bz sp_ la_ M' _;exact Hz (Ox Ag! (Vu (Cc (f:=Aa 0) (d:=ah!) rfl) (dH iq)) (d:=.int 1) rfl) As_
theorem Hist.next{os:l!}{o:Op}(h:Hist (S++o::os)):o.n=fM_+1:=by
 have:=(h.ch o.h).num (k7!).length o;rw[Ez]at this;have e:hs hs_ o.h=o::hs os o.h:=by unfold hs;rw[CK d_]
 rw[e]at this;exact this (by rw[CD x_];simp)
noncomputable def tkB(t:Bo):WS:=wP 2 ss!
theorem a5l:∀(os:l!) (x1:D) (k:Int) (y:av_) (M:Mh) (out:D) (S:l!) (kl:A_) (ca:k2_) (R:m_),Ek t M a ta wa out S kl ca->Hist (S++os)->(S++os).length<64->
  (∀M' g7 g8 uo y',Ek t M' a ta wa uo (S++os) g7 g8->(uo=.non\/uo=out)->R (.nx [q_,P_,some (.int (k+(ax_:Nat))),y']) M')->
  Kr z! Q_ (tkB t) J_ [q_,P_,some es_,y] M R
 |[],x1,k,y,M,out,S,kl,ca,R,hA,_,_,hR=>⟨trivial,by
  have:=hR M kl ca out y (by rw[BL];exact hA) eZ_;simpa using this⟩
 |o::os,x1,k,y,M,out,S,kl,ca,R,hA,hH,hl,hR=>by
  refine aU_;show tkB t Au_ M _;show Ay 2 (Sm t) dM_ Au_ M _;have j5:k3_<64:=by rw[AY]at hl;omega
  refine iB rfl rfl (a2r hA j5 hH.next λM' g7 g8 iq=>?_);have e:S++o::os=S++[o]++os:=by simp
  refine a5l os x1 S! ej_ M' .non (S++[o]) g7 g8 R iq (by rw[<-e];exact hH) Av_ λM2 VP VQ VR y2 Y hz=>?_;have h3:=hR M2 VP VQ VR y2 (by rw[e];exact Y) (.inl (hz.elim id id));have ek:k+((hs_).length:Nat)=k+1+(ax_:Nat):=by rw[AR];omega
  rw[ek]at h3;exact h3
end
section
variable{t:Bo}{M:Mh}{ρ:Ag}{a ta wa:Addr}{out:D}{ca:Int->Addr}
theorem Ek.mupN{c:dN}(hA:hP!)(B:p≠a)(Y:p≠ta)(h3:p≠wa):Ek t pg! a ta wa out [] [] ca:=by obtain⟨ep,ht⟩:=hA.tk;exact{hA with ob:=(mup_ne (AI B)).trans hA.ob,tk:=⟨ep,(mup_ne (AI Y)).trans ht⟩,wt:=(mup_ne (AI h3)).trans hA.wt,cl:=λh hh=>p1!}
theorem Ek.offN(hA:hP!)(hp:M p=none):p≠a/\p≠ta/\p≠wa:=by obtain⟨ep,ht⟩:=hA.tk;exact⟨AI (Bl hK_ hp),AI (Bl k4_ hp),AI (Bl k5! hp)⟩
theorem a2c{kvs:h_}{ep:Nat}{fo fa fb:e!}{K:u_}(h0:kT!)(B:pI!)(Y:fb ρ=some z)(hp:bS_)(hk:ck!)(hl:dr!)(hn:y∉kvs.map a_)(hK:K z (Cg M p (.dct (kvs++[(y,z)]) bb!))):Pi df_ ho_ fp_ ρ M K:=by unfold Pi;rw[Gw h0,Fb hp];refine Vw ?_;rw[Gw B,Gw Y,Fb hp,hk];refine Vw (Vw ⟨hl,?_⟩);show(match kget kvs y with|some v=>K v M|none=>K z (Cg M p (.dct (Bk kvs y z) bb!)));rw[mN hn,Qg hn];exact hK
theorem b5e(o:Op):Aq o.nm I_=some bo_:=by simp[Op.nm,Aq,Gm,Iw]
theorem c6g(o:Op):Aq o.v bv!=some en!:=by simp[Op.v,Aq,Gm,Iw]
noncomputable def nyB(t:Bo):WS:=Ap eH_
 (Ap sb!
 sd!)
theorem a6z:∀(os dn:l!) (x1:D) (y3 y4 y5:av_) (ep:Nat) (M:Mh) (R:m_),Ek t M a ta wa out [] [] ca->(∀o∈os,OpF o)->((dn++os).map Op.nm).Nodup->(dn++os).length<64->M p=some (.dct p9_ ep)->p≠a->p≠ta->p≠wa->
  (∀M' a9 j8 j9 nh,M' p=some (.dct ((dn++os).map λo=>ld!) a9)->hk_->R (.nx [q_,P_,Q!,j8,j9,nh]) M')->
  Kr z! Q_ (nyB t) J_ [q_,P_,Q!,y3,y4,y5] M R
 |[],dn,x1,y3,y4,y5,ep,M,R,_,_,_,_,hp,_,_,_,hR=>⟨trivial,hR M ep y3 y4 y5 (by rw[BL];exact hp) λb _=>rfl⟩
 |o::os,dn,x1,y3,y4,y5,ep,M,R,hA,hf,nd,hl,hp,uq,ur,qi,hR=>by
  refine aU_;have ho:=hf o AM;have e:dn++o::os=dn++[o]++os:=by simp
  show nyB t qa! M _;show Ap eH_ _ qa! M _;have es:Ji G_ Cb cX! qa!=some o.nm:=b2h o;refine Zl (Cc es) ?_;show Ap n4! _ ld_ M _;have B:PuT r9! ld_ M false:=by
   have:=eK (Ii (ρ:=ld_) As! (Cc (f:=Aa 3) rfl) (sH (o:=o) hA));rw[AU (by have:=ho.n1;show¬(o.n<=gl!);omega)]at this;exact this
  have Y:PuT sa_ ld_ M false:=by
   refine eK (Ox (Cc (d:=hj!) (b5e o)) (Ow bX_ hA.ob hF1) ?_);have:(o.h==3)=false:=by rcases ho.hh with z|z|z<;>rw[z]<;>rfl
   show Bu bo_ aA_=_;rw[cV,this]
  unfold Ap;refine kA B (kA Y ?_);unfold Ba;have wg:o.nm∉(p9_).map a_:=λz=>by
   rw[CB]at z;rw[BK,BO]at nd;exact nd.2.2 o.nm z o.nm d_ rfl
  refine a2c (p:=p) (y:=o.nm) (z:=o.v) (k:=AB_) rfl rfl rfl hp rfl (by rw[AW];rw[AY]at hl;unfold big;omega) wg ?_;show Bj sc! Jg Di lf! AC_ _;have h3:fT sb_ lf!=some false:=by
   obtain⟨n1,n2⟩:=tM ho.dg;have:f2 Fw H! G_ lf!=some Y_:=Tk n1 a!;show"!8"
  refine kA (yF h3) ?_;show Kr z! Q_ (nyB t) J_ lf! AC_ R;refine a6z os (dn++[o]) x1 ej_ (some o.nm) ej_ bb! _ R (hA.mupN uq ur qi) (λx L=>hf x ch!) (by rw[<-e];exact nd) Av_ (by rw[mup_same,BK];rfl) uq ur qi λM' a9 z3 z4 z5 g1 g2=>?_;exact hR M' a9 z3 z4 z5 (by rw[e];exact g1) λb J=>(g2 b J).trans kg_
theorem a3m{ms:l!}{R:u_}(hA:hP!)(hH:dx!)(hl:hR!)
  (hR:∀M' p ep,Ek t M' a ta wa out [] [] ca->M' p=some (.dct hQ_ ep)->p≠a->p≠ta->p≠wa->R D_ M'):Gi t lg! M R:=by
 refine j_;show Ap eG_ (Ap (Fn r8_ z! (nyB t)) dL!) [q_,cP!,none,none,none,none] M _;intro p hp;obtain⟨q1,q2,q3⟩:=hA.offN hp;have dh:=hA.mupN (c:=.dct [] 0) q1 q2 q3;show Ap (Fn _ _ _) _ [q_,cP!,Q!,none,none,none] cK_ _;unfold Ap Fn Em;have td:dG cK_ (.fn wa) qb!=some qb!:=by
  simp only[dG,dh.wt];rw[AN (by rw[AW];unfold big;simp;omega)];rfl
 refine Ox (Ow bX_ dh.ob hF3) (Cc (d:=lf_) rfl) td _ ?_;refine a6z (p:=p) ms [] _ none none none 0 _ _ dh hH.op (by simpa using hH.names) AH! mup_same q1 q2 q3 λM' a9 y3 y4 y5 g1 g2=>?_;obtain⟨et,ht⟩:=dh.tk;have VS:Ek t M' a ta wa out [] [] ca:={dh with ob:=(g2 a (AI q1)).trans dh.ob,tk:=⟨et,(g2 ta (AI q2)).trans ht⟩,wt:=(g2 wa (AI q3)).trans dh.wt,cl:=λh hh=>p1!};exact Hz qc! (hR M' p a9 VS g1 q1 q2 q3)
noncomputable def ctB(t:Bo):WS:=Ap sd_
 (Ap sg_
 sh_)
theorem d0z{kvs:h_}{ep:Nat}{fo fi f:e!}{R:m_}(h0:kT!)(B:fi ρ=some y)(Y:f ρ=some v)(hp:bS_)(hk:ck!)(hl:dr!)(k':R aG! hF!):Ei df_ (wl fi) (wl f) ρ M R:=by unfold Ei;rw[Gw Y,Gw h0,Gw B,Ob hp hk hl];exact k'
theorem a7y{e0:Nat}(pq:q≠p):∀(qs:l!) (jr:h_) (ep:Nat) (y3 y4:av_) (M:Mh) (R:m_),Ek t M a ta wa out [] [] ca->M p=some (.dct kvs e0)->(∀o∈qs,kget kvs o.nm=some o.v/\OpF o)->M q=some (.dct jr ep)->q≠a->q≠ta->q≠wa->
  qs.Pairwise (λx y=>x.h=y.h->x.tm<y.tm)->(∀o∈qs,∀v,kget jr bo_=some v->∃m,v=.int m/\m<o.tm)->jr.length+qs.length<1000->
  (∀M' j8 j9,Ek t M' a ta wa out [] [] ca->R (.nx [q_,Q!,aX!,j8,j9]) M')->
  Kr z! Q_ (ctB t) AH_ [q_,Q!,aX!,y3,y4] M R
 |[],jr,ep,y3,y4,M,R,hA,_,_,_,_,_,_,_,_,_,hR=>⟨trivial,hR M y3 y4 hA⟩
 |o::qs,jr,ep,y3,y4,M,R,hA,hp,hk,hq,n1,n2,n3,pw,ht,hl,hR=>by
  refine aU_;obtain⟨VT,ho⟩:=hk o AM;rw[CS]at pw;simp only[AR]at hl;show ctB t AI! M _;show Ap (Ba 4 _) _ AI! M _;have i1:Dz M D_ o.nm=some o.v:=(Nk (k:=AB_) hp rfl).trans VT;have i2:Dz M o.v bv!=some en!:=c6g o;refine Zl (Ox (Ox qc! (Cc (d:=o.nm) rfl) i1) (Cc (d:=.int 2) rfl) i2) ?_;show Ap n4! _ lg_ M _;have ix:f2 Aq G_ F_ lg_=some bo_:=b5e o;obtain⟨m,em,hm⟩:∃m:Int,(kget jr (.int o.h)).getD (.int 0)=.int m/\m<o.tm:=by
   cases e:kget jr bo_ with
   |none=>exact⟨0,rfl,by have:=ho.t1;omega⟩
   |some v=>
    obtain⟨m,e1,e2⟩:=ht o AM v e;exact⟨m,e1,e2⟩
  have hc:PuT sg! lg_ M false:=by
   refine eK (Ox (Cc (d:=kf!) rfl) (lG (Cc (d:=.fn q) rfl) (Cc ix) (Ii bY_ (Cc ix) (uH hA rfl)) hq (k:=p3!) rfl em) ?_);show some (D.bl (decide (o.tm<=m)))=_;rw[AU a!]
  refine Qu hc ?_;refine d0z (p:=q) (y:=hj!) (v:=kf!) (k:=p3!) rfl ix rfl hq rfl g7_ ?_;show Kr z! Q_ (ctB t) AH_ lg_ (Cg M q (.dct (Bk jr bo_ en!) (Lq jr bo_ ep))) R;refine a7y pq qs _ _ (some o.nm) (some en!) _ R (hA.mupN n1 n2 n3) ((mup_ne (AI pq)).trans hp) qc_ mup_same n1 n2 n3 pw.2 (λx L v hv=>?_) (by have:=kput_len jr bo_ en!;omega) λM' z3 z4 h=>hR M' z3 z4 h;by_cases c:o.h=x.h
  .rw[<-c,Gu]at hv;cases hv;exact⟨_,rfl,pw.1 x L c⟩
  .rw[Hb λz=>c (D.int.inj z)]at hv;exact ht x ch! v hv
theorem a7l{f:Op->D}{g:Op->D}:∀{l:l!},(hN_).Nodup->∀{o:Op},o∈l->kget (l.map λo=>(f o,g o)) (f o)=some (g o)
 |[],_,o,h=>by cases h
 |x::l,nd,o,h=>by
  rw[AK,AV]at nd;rw[AK];unfold kget;rcases AD.mp h with rfl|h
  .rw[j!]
  .rw[AH λz=>nd.1 (by rw[z];exact AO h),a7l nd.2 h]
noncomputable def iM(o:Op):Int×Int:=(o.h,o.n)
theorem Hist.nkeys{ms:l!}(h:dx!):(ms.map iM).Nodup:=by have:=h.names;rw[GU,JA]at this ⊢;refine this.imp λ{x y} VU e=>VU ?_;simp only[iM,DM]at e;show D.tup [.int x.h,.int x.n]=D.tup [.int y.h,.int y.n];rw[e.1,e.2]
theorem Hist.rise{ms:l!}(h:dx!){x y:Op}(L:x∈ms)(hy:y∈ms)(e:x.h=y.h)(hn:x.n<y.n):x.tm<y.tm:=by have lg:x∈hs ms y.h:=eY.mpr ⟨L,e⟩;have xc:y∈hs ms y.h:=eY.mpr ⟨hy,rfl⟩;obtain⟨i,hi,ei⟩:=IE.mp lg;obtain⟨j,hj,ej⟩:=IE.mp xc;have B:=(lk!).num i x (by rw[BA hi,ei]);have Y:=(lk!).num j y (by rw[BA hj,ej]);have:=HB.mp (lk!).tim i j hi hj a!;rw[ei,ej]at this;exact this
theorem b5u{x y:Op}(h:Vb (iM x) (iM y)=true)(e:x.h=y.h):x.n<y.n:=by simp only[Vb,ltP,iM,e,CF,BM]at h;exact h
theorem nQ{e0:Nat}{ms:l!}{R:u_}(hA:hP!)(hH:dx!)(hl:hR!)(hp:M p=some (.dct hQ_ e0))(uq:p≠a)(ur:p≠ta)(qi:p≠wa)
  (hR:qf_):Nl t [ah!,.fn p] M R:=by
 refine j_;show Ap eG_ (Fn zg_ z! (ctB t)) [q_,Q!,none,none,none] M _;intro q hq;obtain⟨q1,q2,q3⟩:=hA.offN hq;have qp:q≠p:=AI (Bl Am! hq);have dh:=hA.mupN (c:=.dct [] 0) q1 q2 q3;have OM:Cg M q E! p=some (.dct hQ_ e0):=(mup_ne (AI qp)).trans hp;show Fn _ _ _ [q_,Q!,aX!,none,none] lk_ _;unfold Fn Em;have ut:(hT!).Perm ms:=Ew ms;have VV:kK lk_ [.fn p]=some (.lst ((hT!).map Op.nm)):=by
  show((Ip lk_ D_).bind λq=>(b2g hG_).map D.lst)=_;rw[Fb OM];show(b2g ((hQ_).map a_)).map D.lst=_;have e1:(hQ_).map a_=ms.map Op.nm:=by rw[CB];rfl
  have e2:(qi!).map aQ=ms.map iM:=by rw[CB];rfl
  rw[e1];unfold b2g;rw[AN ⟨DU.mpr λd hd=>by obtain⟨o,_,rfl⟩:=AX.mp hd;rfl,by rw[e2];exact hH.nkeys,uF_⟩];show some (D.lst (Rc aQ qi!))=_;rw[kJ (f:=Op.nm) (k:=iM) (k':=aQ) λo=>rfl]
 refine a6h qc! VV _ ?_;refine a7y qp hT! [] 0 none none _ _ dh OM (λo ho=>⟨a7l hH.names qj!,hH.op o qj!⟩) mup_same q1 q2 q3 ?_ (λo _ v hv=>by cases hv) (by rw[ut.length_eq];simp;omega) λM' y3 y4 h=>hR M' h;have br:fS iM hT!:=Ry hH.nkeys;have:=List.Pairwise.and_mem.mp br;exact this.imp λ{x y} h e=>hH.rise (ut.mem_iff.mp h.1) (ut.mem_iff.mp h.2.1) e (b5u (x:=x) (y:=y) h.2.2 e)
theorem a0z:∀{ys:b!},(∀y∈ys,y=D.bl true)->Zi ys=some qk!
 |[],_=>rfl
 |y::ys,h=>by
  rw[h y AM];show(Zi ys).map (true::·)=_;rw[a0z λx L=>h x ch!];rfl
theorem b8h{f:e!}(h:cg!):Ad f Ao ρ=some [d]:=by unfold Ad;rw[h];rfl
theorem c8q{f g k:e!}{a:D}(B:kO_)(Y:kP!)(h3:k ρ=some c):Ad f zi! ρ=some ev_:=by unfold Ad;rw[B,Y,h3];rfl
theorem a0j{g:X!}{fs:an!}(h:hb_):f1 g fs ρ=g ds:=by unfold f1;rw[h];rfl
theorem c3d{ms:l!}(nd:t.nd)(hH:dx!)(hl:hR!):Gd sj! hV_=some false:=by
 obtain⟨ys,e,_,hr⟩:=Xj (ρ:=a9!) (bnd:=Cr 0) (ft:=og_) (fe:=f1 (Eo t) aZ!) (λy=>y=D.bl true) fP! (by
  intro d hd;obtain⟨o,ho,rfl⟩:=AX.mp hd;exact⟨bD_,true,rfl,rfl,λ_=>⟨f9!,d1f nd (hH.op o ho),rfl⟩⟩)
 have hc:He 1 [] dN! B! a1! si_ hV_=some a6!:=by
  show(if(fP!).length<=big then Option.map D.lst (Io _ _ _ a9! fP!)else none)=_;rw[AN dt!,e];rfl
 have ha:f1 nW (Ad ms_ Ao) hV_=some C_:=by
  have B:Ad ms_ Ao hV_=some [.lst ys]:=by
   exact b8h hc
  rw[a0j B];show(Zi ys).map (λbs=>D.bl n6_)=_;rw[a0z hr];show some (D.bl ((qk!).all id))=_;rw[DU.mpr λx L=>by obtain⟨_,_,rfl⟩:=AX.mp L;rfl]
 unfold Gd fT;rw[ha];rfl
theorem fQ{ms:l!}{R:u_}(nd:t.nd)(hA:hP!)(hH:dx!)(hl:hR!)(hR:qf_):Ku t lg! M R:=by refine j_;show Ap (Bj (Fj (Gd _)) Jg Di) sl! lo_ M _;refine Qu (yF (c3d nd hH hl)) ?_;refine Ol ?_;have hn:∀K:D->Mh->Prop,Gi t lg! M K->Ay 2 (Gi t) cv_ lo_ M K:=λK h=>iB rfl rfl h;show Ay 2 (Gi t) cv_ lo_ M _;refine hn _ (a3m hA hH hl λM1 p ep dh hp uq ur qi=>j_);exact nQ dh hH hl hp uq ur qi λM' iq=>hR M' iq
theorem b9g{ms:l!}{R:u_}(nd:t.nd)(hA:qp!)(hH:dx!)(hl:hR!)(hR:∀M' g7 g8,Ek t M' a ta wa .non ms g7 g8->R ev! M'):nF t lg! M R:=by refine j_;show Ap sr_ (Ap (Ba 2 a2!) (Ap (Fn (Qt dN!) z! (tkB t)) dL!)) [q_,cP!,none,none] M _;unfold Ap;refine Ol (iB rfl rfl (fQ nd hA hH hl λM1 dh=>?_));refine Cc (f:=fC I_) (d:=bR_) rfl _ ?_;show Fn (Qt dN!) z! (tkB t) qq_ M1 _;have hi:Hk w! qq_=some fP!:=jF rfl;unfold Fn Qt;rw[hi];refine a5l ms _ 0 none M1 .non [] [] ca _ dh (by simpa using hH) AH! λM' g7 g8 uo y' iq hz=>?_;have ho:uo=.non:=hz.elim id id;rw[ho]at iq;refine Hz (Cc (d:=.int lo!) (by show some (D.int (0+lo!))=_;rw[Int.zero_add])) As_
end
theorem c0x{α:Type}(p q:α->Bool)(l:N_)(h:∀x∈l,¬(p x=true/\q x=true)):(l.filter p++l.filter q).Perm qr_:=by
 have B:=List.filter_append_perm p qr_;rw[GE,GE]at B;have e1:(l.filter λx=>p x&&(p x||q x))=l.filter p:=DZ λx _=>by cases p x<;>simp
 have e2:(l.filter λx=>(!p x)&&(p x||q x))=l.filter q:=DZ λx L=>by
  have:=h x L;cases c:p x<;>cases d:q x<;>simp_all
 rw[e1,e2]at B;exact B
theorem rH{S:l!}:∀{kl:A_},kl.Nodup->(lp!).Perm (S.filter λo=>decide (o.h∈kl))
 |[],_=>by simp
 |k::kl,nd=>by
  rw[AV]at nd;rw[List.flatMap_cons];refine((rH nd.2).append_left _).trans ?_;refine(c0x (λo:Op=>decide (o.h=k)) (λo=>decide (o.h∈kl)) S λx _ z=>?_).trans (List.Perm.of_eq (DZ λx _=>by simp[AD]));simp only[BM]at z;exact nd.1 (z.1▸z.2)
section
variable{t:Bo}{M:Mh}{ρ:Ag}{a ta wa:Addr}{out:D}{S:List Op}{kl:List Int}{ca:Int->Addr}
theorem Ek.perm(hA:br!):(lp!).Perm S:=by refine(rH hA.nk).trans (List.Perm.of_eq (CY.mpr λo ho=>?_));rw[BM,hA.mem];intro z;have:o∈hs S o.h:=eY.mpr ⟨ho,rfl⟩;rw[z]at this;cases this
noncomputable def alB(t:Bo):WS:=b1v 1 mh!
theorem a8f{ck:bE!}(hA:br!)(dw:ck M)(hS:hM_):∀(ks:A_) (acc:l!) (y:av_) (R:m_),(∀h∈ks,h∈kl)->cL!+64*kk_<100000->
  (∀y',R (.nx [q_,some (.lst ((acc++ks.flatMap (hs S)).map Op.v)),y']) M)->
  Kr a3_ ck hX_ qu_ [q_,fx!,y] M R
 |[],acc,y,R,_,_,hR=>⟨dw,by have:=hR y;simpa using this⟩
 |h::ks,acc,y,R,hk,hl,hR=>by
  refine oF!;obtain⟨ep,ht⟩:=hA.tk;have hh:=hk h AM;show alB t [q_,fx!,hL!] M _;show b1v 1 mh! [q_,fx!,hL!] M _;unfold b1v;have i1:Dz M (.fn ta) (.int h)=some (.fn hK!):=(Nk (k:=p0!) ht rfl).trans (by rw[Pq,AN hh]);refine Ox k5_ k6! i1 _ ?_;rw[fR (hA.cl h hh)];refine Vw ?_;have JU:(k3!).length<64:=EM (nB S h) hS;simp only[AR]at hl;refine⟨by simp only[AW];unfold big;omega,?_⟩;show Kr a3_ ck hX_ qu_ [q_,some (.lst (acc.map Op.v++(k3!).map Op.v)),hL!] M R;rw[<-BK];refine a8f hA dw hS ks (acc++hs S h) (some (.int h)) R qc_ vG! λy'=>?_;have:=hR y';rw[List.flatMap_cons,<-CN]at this;exact this
theorem wG(hA:br!)(hH:Hist S)(hS:hM_):sD (Jv t) [ah!] M (.lst lr!):=λK hK=>by
 obtain⟨ep,ht⟩:=hA.tk;refine j_;show Ap ga_ (Ap qv_ mh_) Ar_ M _;show Ap qv_ mh_ qw! M _;unfold Ap Fn aS;refine Ow bX_ hA.ob hF2 _ ?_;rw[Fb ht];refine Vw ?_;have VL:pY_<64:=EM hA.len hS;have ek:(fM!).map a_=kl.map D.int:=by rw[CB];rfl
 show Kr a3_ _ hX_ ((fM!).map a_) qw! M _;rw[ek];refine a8f hA ht hS kl [] none _ (λh hh=>hh) b3_ λy'=>?_;have hp:=hA.perm;have nd:((lp!).map Op.key).Nodup:=(kq!).nodup_iff.mpr hH.keys;have he:f1 Gj cZ_ [q_,some (.lst qw_),y']=some (.lst lr!):=by
  show Gj [.lst qw_]=_;rw[CT,Wy nd qx_,Vk hp nd]
 exact Hz (Cc he) hK
structure OS(t:Bo)(M:Mh)(a o:Addr)(rl:bQ!)(W:OW):Prop where
 hob:∃ta wa,M a=some ls_
 out:Er t M o rl W 1500
theorem c0v{R:u_}(hA:qy_)(hH:Hist S)(hS:hM_)(hr:Run W0 qz! W')
  (hR:∀M' o ae,OS t M' a o ae W'->(∀b,M b≠none->b≠a->M' b=M b)->R ae_ M'):Es t [ah!] M R:=by
 refine j_;show Ap r5_ (Bz go_) [q_] M _;unfold Ap;refine a1z (eK (Ox (Ow bX_ hA.ob hF4) qz_ rfl)) ?_;refine iS ?_;show Ay 1 (Ql t) mi! [q_] M _;have hp:(Re S).Perm S:=Ew S;have hc:∀K:D->Mh->Prop,Ql t [.lst lr!] M K->Ay 1 (Ql t) mi! [q_] M K:=λK h=>by
  show Ay 1 (Jv t) aQ! [q_] M _;exact Vu bY_ (wG hA hH hS) _ ca_
 refine hc _ (a9m (W':=W') ((kq!).nodup_iff.mpr hH.keys) ((kq!).nodup_iff.mpr hH.names) qx_ (λo ho=>(hH.op o z8!).dg) (by rw[b2f hH.keys];exact hr) λo M1 ae ho hO hw fr=>?_);have fa:=fr a hK_;refine Tb (fs:=hF ta wa .non) rfl (fa.1.trans hA.ob) p3_ hP5 ?_;have Y:Er t (Cg M1 a ls_) o ae W' 1500:=hO.keep λc hc=>mup_ne λz=>hc (by rw[z];exact fa.2);show Bz go_ [q_] (Cg M1 a ls_) _;exact Hz (Ow bX_ mup_same hF4) (hR _ o ae ⟨⟨ta,wa,mup_same⟩,Y⟩ λb J hn=>(mup_ne hn).trans (fr b J).1)
variable{o:Addr}{rl:Addr->fU}{W:OW}{x:D}
theorem iY(h:bc_):sD (Es t) [ah!] M ae_:=λK hK=>by
 obtain⟨ta,wa,hob⟩:=h.hob;refine j_;show Ap (Bj r4_ _ Di) (Bz go_) [q_] M _;refine Qu (eK (Ox qB! qz_ rfl)) ?_;exact Hz qB! hK
theorem OS.nob(h:bc_)(hm:∀{a1 a2 a3 a4 a5 a6:Addr},(W!).lookup m=none):Gg t.B4 m M ae_:=by obtain⟨_,_,_,_,_,_,_,_,_,_,_,_,hA⟩:=h.out;exact hA.noOb hm
theorem b9d(h:bc_)(hk:aN_):sD gC! dA_ M qB_:=λK hK=>by
 refine j_;show Bz my_ fV_ M _;exact Hz (Kq lv! (h.nob oM1) bd! λK hK=>nE h.out hk hK) hK
theorem b9e{R:u_}{Q:bE!}(JV:qC_)(hk:aN_)(hR:∀M' o rl,OS t M' a o rl W->Q M'->R qB_ M'):Qz t dA_ M R:=by refine j_;show Bz my_ fV_ M _;unfold Bz Bx;refine a8d (a:=ah!) rfl (JV _ λM' o rl h hQ=>⟨h.nob oM1,?_⟩);unfold Ac Ak;rw[Gw (f:=Aa 1) (d:=x) rfl];exact⟨rfl,nE h.out hk (hR M' o rl h hQ)⟩
theorem b8v(h:bc_)(hk:aN_)(L:cz_):sD (Mg t) dA_ M ae_:=λK hK=>by
 refine j_;show Ap iB_ sv! qE! M _;refine Zl lv! ?_;refine Qu (b3s (eK (b:=true) (Kq h0_ (h.nob oM1) bd! λK hK=>nE h.out hk qD!))) ?_;exact Hz h0_ hK
theorem jM(h:bc_)(hk:aN_)(L:aS_):sD (Dp t) dA_ M ae_:=λK hK=>by
 refine j_;show Ap iB_ sw_ qE! M _;refine Zl lv! ?_;refine Qu (b3s (eK (b:=true) (Kq h0_ (h.nob oM2) bd! λK hK=>Oe h.out hk qD!))) ?_;exact Hz h0_ hK
theorem a4r(h:bc_)(wi:El W)(hk:aN_)(L:cz_):sD (Qm t) dA_ M d1!:=λK hK=>by
 refine j_;show Bz sA! fV_ M _;exact Hz (Kq (Ii bY_ bd! (b8v h hk L)) (h.nob d5l) bd! λK hK=>nO h.out wi c! L hK) hK
theorem b4s(h:bc_)(hk:aN_)(L:aS_)(hp:jn_):sD (cM t) dA_ M p:=λK hK=>by
 refine j_;show Bz sz! fV_ M _;exact Hz (Kq qE_ (h.nob d5m) bd! λK hK=>tL h.out hk hp hK) hK
theorem c5d(h:bc_)(wi:El W)(hk:aN_)(L:aS_)(hj:oG_):sD (vO t) dA_ M v:=λK hK=>by
 refine j_;show Bz sA_ fV_ M _;exact Hz (Kq qE_ (h.nob d5j) bd! λK hK=>a1y h.out wi L c! hj hK) hK
theorem b9l{f:aa!}{q2:WS}{R:m_}(h:f ρ=some false)(k:eg_):Ap (Bj (Fj f) Jg Di) q2 ρ M R:=Qu (yF h) k
theorem b4c{i:Nat}(hi:i<4):Ia [fg!]=some C_:=a7u a! a!
theorem b5a{i:Nat}(h:bc_)(wi:El W)(hk:aN_)(L:aS_)(hi:i<4)(hv:bO![i]?=some v):sD (Xa t) [ah!,x,fg!] M v:=λK hK=>by
 refine j_;show Bz sB! dB_ M _;have hn:sD (Hf t) [ah!,x,fg!] M ae_:=λK hK=>by
  refine j_;show Ap sx_ (Bz iE!) dB_ M _;have hp:Gd sx! dB_=some false:=by
   have:f1 Ia b4_ dB_=some C_:=(a0j (b8h (f:=Aa 2) (d:=fg!) rfl)).trans (b4c hi);unfold Gd fT;rw[this];rfl
  have f0:Aa 0 dB_=some cB_:=rfl;have ll:Aa 1 dB_=some x:=rfl;generalize dB_=env at hp f0 ll ⊢;exact b9l hp (Hz (Ii (Cc f0) (Cc ll) (jM h hk L)) hK)
 have lg:Dz M e4! lv_=some v:=by
  show Gm bO! cM!=_;unfold Gm Iw;rw[ab!,AN (by rw[wi.nl x L];omega)];simpa using hv
 exact Hz (Ox (Kq (yG bY_ bd! lw! hn) (h.nob d5i) bd! λK hK=>oT h.out wi L hK) lw! lg) hK
end
noncomputable def a1g(W:OW):Prop:=∀x∈W.its,∀d∈W.num x,∃i:Int,d=.int i
theorem b5b{W:OW}(h:a1g W)(hs:pG!):a1g W':=by
 cases hs with
 |put _ _ _=>
  intro x L e he;have cg:e∈uG!:=he;by_cases c:x=n
  .rw[AN c]at cg;simp only[AD,BQ,DK]at cg;exact⟨0,by rcases cg with z|z|z|z<;>exact z⟩
  .rw[AH c]at cg;have lg:x∈W.its++[n]:=L;exact h x ((AQ.mp lg).resolve_right λz=>c pM_) e cg
 |mvY _ _ _ _ _=>exact h
 |mvN _ _ _ _=>exact h
 |drY _ _ _=>exact h
 |drN _ _=>exact h
 |wrt _ _ _ _=>split;exact h;exact h
 |cut _ _ _ _=>split;exact h;exact h
 |@set a p v _ _ _=>
  split
  .intro x L e he;have cg:e∈(if x=a then(ot_).set p.toNat (.int v)else W.num x):=he;by_cases c:x=a
   .rw[AN c]at cg;rcases List.mem_or_eq_of_mem_set cg with z|z
    .exact h a (c▸L) e z
    .exact⟨v,z⟩
   .rw[AH c]at cg;exact h x L e cg
  .exact h
theorem b5c{W:OW}{os:l!}(hr:Run W os W'):a1g W->a1g W':=by
 induction hr with
 |nil=>exact id
 |cons hs _ ih=>exact λh=>ih (b5b h hs)
theorem c1p{W W':OW}(hs:pG!):∀x∈W'.its,x∈W.its\/x=n:=by
 cases hs with
 |put _ _ _=>
  intro x L;have lg:x∈W.its++[n]:=L;exact(AQ.mp lg).imp id AT.mp
 |mvY _ _ _ _ _=>exact λx L=>.inl L
 |mvN _ _ _ _=>exact λx L=>.inl L
 |drY _ _ _=>exact λx L=>.inl L
 |drN _ _=>exact λx L=>.inl L
 |wrt _ _ _ _=>split;exact λx L=>.inl L;exact λx L=>.inl L
 |cut _ _ _ _=>split;exact λx L=>.inl L;exact λx L=>.inl L
 |set _ _ _=>split;exact λx L=>.inl L;exact λx L=>.inl L
theorem c1q{W W':OW}{os:l!}(hr:Run W os W'):∀x∈W'.its,x∈W.its\/∃o∈os,x=o.nm:=by
 induction hr with
 |nil=>exact λx L=>.inl L
 |cons hs _ ih=>
  intro x L;rcases ih x L with z|⟨o,ho,z⟩
  .rcases c1p hs x z with z|z
   .exact cx!
   .exact .inr ⟨_,AM,z⟩
  .exact .inr ⟨o,AE _ ho,z⟩
section
variable{t:Bo}{M:Mh}{ρ:Ag}{a w:Addr}{W:OW}{o:Addr}{rl:Addr->fU}{aj:Addr->LR}{x:D}
theorem b1b(wi:El W){x:D}:Ct d1!=true/\Ot d1!<=40:=by
 have h:∀d∈chl W.rows x,Sd d:=λd hd=>(Tf wi dp_ (Nj.mp hd)).1.sd;show"!J"
 .show Dw gJ_=true;exact Mz λd hd=>Ig (h d hd)
 .show Gz gJ_+1<=40;have:=Qo (n:=5) λd hd=>Rq (h d hd);omega
noncomputable def OrK(ft:WT)(q1 q2:WS)(ρ:Ag)(R:m_)(d:D)(M:Mh):Prop:=match d with
 |.bl b=>(if b then(if true then q1 ρ M R else q2 ρ M R)else ft ρ M λb M1=>if b then q1 ρ M1 R else q2 ρ M1 R)
 |_=>False
theorem a7o{fa:WE}{ft:WT}{q1 q2:WS}{R:m_}(h:fa ρ M (OrK ft q1 q2 ρ R)):Bj (wOr (wT fa) ft) q1 q2 ρ M R:=h
theorem c4b{ft:WT}{q1 q2:WS}{R:m_}(h:k0_)(k:eg_):OrK ft q1 q2 ρ R Y_ M:=by show(if false=true then(if true=true then q1 ρ M R else q2 ρ M R)else ft ρ M λb M1=>if b then q1 ρ M1 R else q2 ρ M1 R);rw[T!];refine h _ ?_;rw[T!];exact k
noncomputable def W2K(g:bp!)(fb:e!)(ρ:Ag)(K:u_)(x:D)(M:Mh):Prop:=wl fb ρ M λy M2=>match g M2 x y with|some d=>K d M2|none=>False
theorem c9n{g:bp!}{fo:WE}{fb:e!}{K:u_}(h:fo ρ M (W2K g fb ρ K)):w2 g fo fp_ ρ M K:=h
theorem b1w{g:bp!}{fb:e!}{K:u_}{x:D}(J:kL_)(hg:z9!)(k:K d M):W2K g fb ρ K x M:=by unfold W2K;rw[Gw J,hg];exact k
noncomputable def s1B(t:Bo):WS:=Bj tV! dT_ Di
theorem a5w{Q:bE!}{R:m_}(JV:qC_)(hQ:∀M',Q M'->Dt M' w aj W)(wi:El W)(hl:fA_)(hk:aN_)(L:cz_)
  (hR:∀M' o rl,OS t M' a o rl W->Q M'->R (.nx bZ!) M'):s1B t bZ! M R:=by
 refine a7o (c9n (iB (a:=ah!) (b:=x) rfl rfl (b9e JV hk λM' o rl h q=>?_)));have hL:=hQ M' q;have Y:PuT tU_ bZ! M' false:=by
  refine eK (Ox (Ii bY_ bd! (a4r h wi hk L)) (Ii ex! bd! λK hK=>wK hL wi (vH wi L) hl hK) ?_);show Fw d1! d1!=_;obtain⟨n1,n2⟩:=b1b wi (x:=x);exact Tk n1 n2
 refine b1w (y:=f9!) (d:=ie!) rfl ?_ (c4b Y (hR M' o rl h q));rw[BJ L];rfl
theorem a5x(h:bc_)(hL:h3_)(wi:El W)(hl:fA_):∀(xs:b!) (y:av_) (R:m_),(∀x∈xs,Lb W x)->qL!->Kr z! Q_ h4! xs [q_,P_,x!,y] M R
 |[],y,R,_,hR=>⟨trivial,hR y⟩
 |x::xs,y,R,L,hR=>by
  refine aU_;obtain⟨k,hk⟩:=cI wi (L x AM);show s1B t bZ! M _;refine a5w (Q:=λM'=>M'=M) (λK hK=>iY h _ (hK M o rl h rfl)) (λM' e=>by rw[e];exact hL) wi hl hk (L x AM) λM' o' ae h' e=>?_;have e':M'=M:=e;rw[e'];exact a5x h hL wi hl xs gd! R qM_ hR
theorem c0i{f:WE}(h:k0!):Pu (b1u (Ac f Ak)) ρ M (.lst [d]):=λK hK=>by
 unfold b1u Ac Ak;exact h _ ⟨by show 1<=1000;decide,hK⟩
theorem c0h{f g:WE}(h:k0!)(Y:Pu g ρ M e):Pu (wO (Ac f (Ac g Ak))) ρ M (.tup [d,e]):=λK hK=>by
 unfold wO Ac Ak;exact h _ (Y _ ⟨by show 2<=1000;decide,hK⟩)
theorem a9e(L:Sd x)(hp:Sd p):Ct lB_=true/\Ot lB_<=40:=by
 have d1:=Rq L;have d2:=Rq hp;show"!J"
 .show Dw lC!=true;refine Mz λd hd=>?_;rw[AT.mp hd];show Dw [x,p]=true;refine Mz λd hd=>?_;simp only[AD,BQ,DK]at hd;rcases hd with rfl|rfl
  .exact Ig L
  .exact Ig hp
 .have B:Gz [x,p]<=5:=Qo λd hd=>by
   simp only[AD,BQ,DK]at hd;rcases hd with rfl|rfl
   .exact d1
   .exact d2
  have Y:Gz lC!<=6:=Qo λd hd=>by
   rw[AT.mp hd];show Gz [x,p]+1<=6;omega
  show Gz lC!+1<=40;omega
theorem a9d(hL:h3_)(wi:El W)(hl:fA_)(L:aS_)(hp:jn_):
  Pu tX_ bZ! M lB_:=λK hK=>by
 obtain⟨wt,wn,qa,hA⟩:=hL;obtain⟨e,hw⟩:=hA.mw;unfold Ea Em;have i1:Dz M bq! dT!=some (.lst fy!):=(Nk (k:=yL_) hw rfl).trans k3r;refine Ox ex! (Cc (d:=.str "rows") rfl) i1 _ ?_;refine zM_;refine Ft (λd=>match d with|.tup [i,_]=>decide (i=x)|_=>false) id trivial _ _ bU! ?_
 .show"!>";show"#8";refine pi_
  .have e1:fT iR_ cJ_=some kH_:=by
    have:f2 Bu V_ w! cJ_=some (.bl kH_):=by
     show yQ!;rw[jE];exact Yg B.sd (wi.nm x L).sd
    show"!8"
   unfold Fj;rw[e1];exact hK
  .rw[Gw (f:=Aa 0) (d:=Cp q) rfl];exact hK
 .have e2:(((fy!).filter λd=>match d with|.tup [i,_]=>decide (i=x)|_=>false).map id)=[.tup [x,p]]:=by
   rw[JM,GC];show(kG_).map Cp=_;rw[a8g wi hp];rfl
  rw[e2];exact hK
theorem b0g(h:bc_)(wi:El W)(hk:aN_)(L:aS_):
  Pu tZ_ bZ! M e4!:=λK hK=>by
 have hi:Km cZ! bZ!=some qQ!:=iV (n:=4) rfl c!;unfold Ea Qt;rw[hi];refine⟨by simp[big],?_⟩;have hl:=wi.nl x L;refine Ft fm_ (λd=>match d with|.int i=>(bO!).getD i.toNat .non|_=>.non) trivial _ _ bU! ?_
 .obtain⟨i,hi,rfl⟩:=AX.mp hd;have cz:=FS.mp hi;refine⟨[some lv_,q_,aT!],rfl,hi!,ei!⟩;have hv:bO![i]?=some ((bO!).getD i .non):=by
   rw[List.getD_eq_getElem?_getD,BA a!];rfl
  exact yG bY_ bd! lw! (b5a h wi hk L cz hv) _ hK
 .have e2:(((qQ!).filter λ_=>true).map λd=>match d with|.int i=>(bO!).getD i.toNat .non|_=>.non)=W.num x:=by
   rw[hi_,CB]
   match hh:W.num x,hl with
   |[a,b,c,d],_=>rfl
  rw[e2];exact hK
theorem b0h(hn:a1g W)(L:aS_):Ct e4!=true/\Ot e4!<=40:=by
 have h:=hn x L;show"!J"
 .show Dw bO!=true;exact Mz λd hd=>by obtain⟨i,rfl⟩:=h d hd;rfl
 .show Gz bO!+1<=40;have:=Qo (n:=0) (ds:=W.num x) λd hd=>by obtain⟨i,rfl⟩:=h d hd;exact BB _
  omega
noncomputable def s2B(t:Bo):WS:=(Ap tV_
 (Ap tY_
 t0!))
theorem b9t{R:m_}(h:bc_)(hL:h3_)(hw:fk!)(ay:sE W 1500)(hn:a1g W)(L:aS_)(hR:R (.nx bZ!) M):s2B t bZ! M R:=by
 have wi:=hw.inv;obtain⟨k,hk⟩:=(wi.nm x L).key;have l1:=ay.rows;have l2:=ay.txt x;obtain⟨s,hj⟩:=b6g hw L a!;obtain⟨q,hq,e⟩:=AX.mp ((wi.ri x).mpr L);obtain⟨q1,p⟩:=q;have e':q1=x:=e;subst e';obtain⟨_,sp,_⟩:=Tf wi _ hq;refine Qu ?_ ?_
 .refine eK (Ox (Ii bY_ f3! (c5d h wi hk L hj)) (Ii ex! f3! λK hK=>nX hL L hk a! hj hK) ?_);show Fw aw_ aw_=_;exact Tk rfl (by show 0<=40;decide)
 refine Qu ?_ ?_
 .refine eK (Ox (c0i (c0h f3! (Ii bY_ f3! (b4s h hk L hq)))) (a9d hL wi a! L hq) ?_);show Fw qV_ qV_=_;obtain⟨n1,n2⟩:=a9e (wi.nm q1 L).sd sp;exact Tk n1 n2
 refine kA ?_ hR;obtain⟨wt,wn,qa,hA⟩:=id hL;obtain⟨e0,ON⟩:=hA.mw;obtain⟨e1,VW⟩:=hA.mn;obtain⟨VX,_⟩:=hA.mq q1 L;have i1:Dz M bq! mQ_=some en_:=(Nk (k:=some (.inl (.inr "numbers"))) ON rfl).trans k3n;have i2:Dz M en_ q1=some lE_:=(Nk VW hk).trans (by rw[Ws,AN L]);refine eK (Ox (b0g h wi hk L) (Ox (Ox ex! (Cc (d:=pM!) rfl) i1) f3! i2) ?_);have:a2q M lE_=.lst (W.num q1):=by simp only[a2q,VX]
 show Fw (.lst (W.num q1)) (a2q M lE_)=_;rw[this];obtain⟨n1,n2⟩:=b0h hn L;exact Tk n1 n2
theorem a5v{ck:bE!}(dw:ck M)(h:bc_)(hL:h3_)(hw:fk!)(ay:sE W 1500)(hn:a1g W):∀(xs:b!) (y:av_) (R:m_),(∀x∈xs,x∈W.its)->qL!->Kr z! ck h8! xs [q_,P_,x!,y] M R
 |[],y,R,_,hR=>⟨dw,hR y⟩
 |x::xs,y,R,L,hR=>by
  refine oF!;show s2B t bZ! M _;refine b9t h hL hw ay hn (L x AM) ?_;exact a5v dw h hL hw ay hn xs gd! R qM_ hR
theorem a2t:yB t=Ap mZ_
 (Ap (Fn tU! z! h4!)
 (Ap (Fn (aS m0!) z! h8!)
 t1_)):=rfl
theorem b1h{S ops:l!}{kl:A_}{ca:k2_}{R:u_}(hA:qy_)(hS:Hist S)(hO:Hist ops)(hp:S.Perm ops)(hl:dn!)(hR:∀M',R C_ M'):Xd t [ah!,hk!] M R:=by
 have JU:k3_<64:=by rw[hp.length_eq];exact hl
 have es:Re S=Re ops:=Vk hp hS.keys;have la:M a≠none:=by rw[hA.ob];simp
 refine j_;rw[a2t];show Ap mZ_ _ [q_,aW_,none,none] M _;unfold Ap Ba;refine a8d (a:=hk!) rfl (b8k hO.keys hO.names hl (λo ho=>(hO.op o ho).dg) λw M1 df W ON hr hL hw ay fr=>?_);obtain⟨pre,hw⟩:=hw;have wi:=hw.inv;have l1:=ay.rows;have l2:=ay.its;have ra:df a=.oth:=(fr a la).2;have dh:Ek t M1 a ta wa .non S kl ca:=hA.keep λb J=>(fr b J).1;have p6:Run W0 qz! W:=by rw[es];exact hr
 have hn:a1g W:=b5c hr λx L=>by cases L
 obtain⟨wt,wn,qa,OO⟩:=id hL;obtain⟨e0,VY⟩:=OO.mw;obtain⟨e1,ht⟩:=OO.mt;have i1:Dz M1 bq! iS!=some fy_:=(Nk (k:=q0!) VY rfl).trans k3t;have kd:mS M1 [.fn wt]=some lI!:=by
  show((Ip M1 fy_).map λq=>D.lst hG_)=_;rw[Fb ht];show some (D.lst ((cn_).map a_))=_;rw[CB];show some (D.lst (W.its.map λi=>i))=_;rw[List.map_id']
 have ad:dG M1 (.lst fs_) lI!=some (.lst (fs_++W.its)):=by
  show Bd (.lst fs_) lI!=_;show(if[root,binn].length+fE!<=big then _ else none)=_;rw[AN (by simp only[AR,EW];unfold big;omega)]
 show Fn (Em _) z! h4! q4_ M1 _;unfold Fn Em;refine Ox (Cc (d:=.lst fs_) rfl) (a6h (Ox ex! q5_ i1) kd) ad _ ?_;have r1:Lb W root:=.inr aH!;have ff:∀x∈binn::W.its,Lb W x:=λx L=>by
  rcases AD.mp L with rfl|L
  .exact .inr eZ_
  .exact .inl L
 show Kr z! Q_ h4! (root::binn::W.its) q4_ M1 _;refine aU_;show s1B t [q_,aW_,x!,some root] M1 _;refine a5w (W:=W) (Q:=λM'=>Dt M' w df W) (λK hK=>c0v dh hS JU p6 λM' o ae gi og=>hK M' o ae gi (hL.keep λc hc=>og c (hL.live hc) λz=>hc (by rw[z];exact ra))) hW_ wi a! (k:=some (.inl (.inr "root"))) rfl r1 λM2 o pz gi um=>?_;refine a5x gi um wi a! (binn::W.its) (some root) _ ff λy'=>?_;show Fn (aS _) z! h8! q7! M2 _;obtain⟨VZ,XB,XC,OP⟩:=id um;obtain⟨XD,V8⟩:=OP.mw;obtain⟨XE,v0⟩:=OP.mt;have i2:Dz M2 bq! iS!=some (.fn VZ):=(Nk (k:=q0!) V8 rfl).trans k3t;unfold Fn aS;refine Ox ex! q5_ i2 _ ?_;rw[Fb v0];refine Vw ?_;have ek:(cn_).map a_=W.its:=by
  rw[CB];show W.its.map (λi=>i)=_;rw[List.map_id']
 show Kr z! _ h8! ((cn_).map a_) q7! M2 _;rw[ek];refine a5v (pre:=pre) v0 gi um hw ay hn W.its y' _ (λx L=>L) λy2=>?_;have V9:¬Lb W (.tup [ff_,ff_]):=λz=>by
  rcases z with z|z|z
  .rcases c1q hr _ z with z|⟨o,ho,z⟩
   .cases z
   .have c9:o∈Re ops:=(DD.mp ho).1;have ie:o∈ops:=(Ew ops).mem_iff.mp c9;simp only[Op.nm,D.tup.injEq,GS,D.int.injEq]at z;have:=(hO.op o ie).hh;omega
  .cases z
  .cases z
 have V':sD gC! [ah!,jS!] M2 Y_:=by
  have:=b9d (k:=some (.inr [.inl 9,.inl 9])) gi (x:=jS!) rfl;rw[AU V9]at this;exact this
 exact Hz (Ox (Ii bY_ (Cc (d:=jS!) rfl) V') (Cc (d:=ie!) rfl) (d:=f9!) rfl) (hR M2)
end
theorem Xk{ft:aa!}{p:hU!}(hf:∀o:Op,ft bD_=some (p o.h)):∀(os:l!),Io B! ft i_ a9! J_=some q8!
 |[]=>rfl
 |o::os=>by
  have ih:=Xk hf os;have e1:Cr 0 o.v a9!=some bD_:=rfl;have e2:Aa 0 bD_=some o.v:=rfl;rw[AK];unfold Io;rw[e1];show((ft bD_).bind λb=>if b then(Aa 0 bD_).bind λy=>(Io B! ft i_ a9! J_).map (y::·)else Io B! ft i_ a9! J_)=_;rw[hf,e2,ih];show(if p o.h=true then some (o.v::(pX_).map Op.v)else some q8!)=_;cases c:p o.h with
  |true=>rw[j!,CK (by exact c)];rfl
  |false=>rw[T!,CL pF_]
section
variable{t:Bo}{M:Mh}{ρ:Ag}
theorem d4j{o:Op}{k:Int}:fT lN! bD_=some cr!:=by
 have:f2 Bu V_ f4_ bD_=some (.bl cr!):=by
  show(Aq o.v I_).bind (λz=>Bu z es_)=_;rw[Zx];exact cV _ _
 show"!8"
theorem d4i{o:Op}{k:Int}:fT lN_ bD_=some (! cr!):=by
 have:f2 Fw V_ f4_ bD_=some (.bl (! cr!)):=by
  show(Aq o.v I_).bind (λz=>Fw z es_)=_;rw[Zx];show Fw bo_ es_=_;simp[Fw,Ct,Ot,a7s]
 show"!8"
theorem c4m{g:aV_}{fa fb:e!}(B:fa ρ=some x)(Y:kL_):f2 g fa fb ρ=g x y:=by unfold f2;rw[B,Y];rfl
theorem b8g{f g:e!}(B:kO_)(Y:kP!):Ad f (Ad g Ao) ρ=some ai!:=by unfold Ad;rw[B,Y];rfl
theorem a6u{os:l!}{i:Nat}{k:Int}(hi:Aa i ρ=some er!)(hl:ax_<64)(hc:b8a 1 [] ρ=a9!):
  f2 Bd (He 1 [] h9_ B! (fT lN!) i_) (He 1 [] h9_ B! (fT lN_) i_) ρ=
   some (.lst ((ra_++os.filter λo=>! cr!).map Op.v)):=by
 have OQ:Hk (Aa i) ρ=some J_:=jF hi;have B:He 1 [] h9_ B! (fT lN!) i_ ρ=some (.lst ((ra_).map Op.v)):=by
  unfold He;rw[OQ,hc];show rb_=_;rw[AN dt!,Xk (p:=λh=>h==k) λo=>d4j];rfl
 have Y:He 1 [] h9_ B! (fT lN_) i_ ρ=some (.lst ((os.filter λo=>! cr!).map Op.v)):=by
  unfold He;rw[OQ,hc];show rb_=_;rw[AN dt!,Xk (p:=λh=>!(h==k)) λo=>d4i];rfl
 have l1:=DO (λo:Op=>cr!) os;have l2:=DO (λo:Op=>! cr!) os;rw[c4m B Y];show(if _<=big then some (D.lst _)else none)=_;rw[AN (by simp only[AW];unfold big;omega),BK]
theorem a9p{os:l!}(h:fJ!):Ct er!=true/\Ot er!<=40:=by
 show"!J"
 .show Dw J_=true;exact Mz λd hd=>by obtain⟨o,ho,rfl⟩:=AX.mp hd;exact(rd!).1
 .show Gz J_+1<=40;have:=Qo (n:=5) (ds:=os.map Op.v) λd hd=>by obtain⟨o,ho,rfl⟩:=AX.mp hd;exact(rd!).2
  omega
noncomputable def lwT(t:Bo):WS:=Ap t7!
 (Ap m6!
 (Bz m6_))
theorem b3h:b3i t=Ap t2_
 (Ap m3_
 (Ap m4!
 (Ap (Bj (Fj (fT m4_)) (Ap t5!
 t6_) Di)
 (lwT t)))):=rfl
theorem a7g{ca:k2_}{os ms:l!}{R:m_}(nd:t.nd)(hA:qp!)(hO:fJ!)(hM:dx!)(hp:ms.Perm os)(hl:ax_<64)(hR:∀M',R (.rt C_) M'):
  lwT t [bT!,dv!,q_,cP!,none] M R:=by
 refine Zl (d:=lf_) bX_ ?_;show Ap m6! _ f7! M R;have WB:kT_<64:=by rw[hp.length_eq];exact hl
 unfold Ap;refine a7o (c9n (iB (a:=ah!) (b:=lf_) rfl rfl (b9g nd hA hM WB λM1 kl XF dh=>?_)));have e1:f1 Dd cZ_ f7!=some ev!:=by
  show Dd [.lst J_]=_;show some (D.int ((J_).length:Nat))=_;rw[AW,hp.length_eq]
 have e2:neM M1 ev! ev!=some Y_:=by
  show Fw ev! ev!=_;exact Tk rfl cj!
 have e3:fT t9! f7!=some false:=by
  obtain⟨n1,n2⟩:=a9p hM;have:f2 Fw L_ G_ f7!=some Y_:=Tk n1 n2;show"!8"
 refine b1w e1 e2 (c4b (yF e3) ?_);show Bz m6_ f7! M1 R;unfold Bz;exact iB (a:=ah!) (b:=.lst J_) rfl rfl (b1h dh hM hO hp hl hR)
theorem b5l{f:e!}{m k:Int}(h:f ρ=some bR!)(hk:0<k):f2 Eg f f4_ ρ=some (.int (m%k)):=by unfold f2;rw[h];show Hr nY_ (λi j=>.int (i%j)) bR! es_=_;simp[Hr,hk]
theorem b2k{i:Nat}{f:WE}{q:WS}{R:m_}(h:f ρ M λd M1=>q cf_ M1 R):Ap (Ba i f) q ρ M R:=h
theorem d0h{i:Nat}{f:e!}{R:m_}(h:cg!)(k:R pz_ M):Ba i (wl f) ρ M R:=by unfold Ba;rw[Gw h];exact k
theorem b5w{ns:A_}(nd:t.nd):c4k t lu! M0 (λd _=>d=.bl true):=by
 obtain⟨m,em,m0,_⟩:=Rl ns (k:=60);obtain⟨m',WC,_,_⟩:=Rl ns (k:=61);have XG:0<=m%13:=EG _ c!;have TN:m%13<13:=DF _ c!;obtain⟨N,hN⟩:∃N:Nat,(N:Int)=m%13:=⟨(m%13).toNat,t_⟩;obtain⟨os,ew,hl,hO⟩:=a8k ns 0 N a!;have j5:ax_<64:=by omega
 refine j_;rw[b3h];show Ap (Ba 1 _) _ f7_ M0 _;have e1:f1 So (Ad i_ m3!) f7_=some er!:=by
  have B:f1 Ee t2! f7_=some bR!:=(a0j (b8g (f:=Aa 0) (g:=fC lL_) rfl rfl)).trans em;have Y:=b5l (ρ:=f7_) B (k:=13) c!;have h3:Ad i_ m3! f7_=some [di_,bR_,.int N]:=by
   rw[<-hN]at Y;exact c8q rfl rfl Y
  exact(a0j h3).trans ew
 refine bE e1 ?_;show Ap m3_ _ [U_,dv!,none,none,none] M0 _;refine b2k ?_;refine b0l λa ta wa M1 ha hA _=>?_;show Ap m4! _ [U_,dv!,q_,none,none] M1 _;refine bE (d:=.lst J_) rfl ?_;show Ap (Bj fo! _ Di) (lwT t) ez_ M1 _;have e2:fT m4_ ez_=some (m'%2==0):=by
  have B:f1 Ee t4! ez_=some (.int m'):=(a0j (b8g (f:=Aa 0) (g:=fC (.int 61)) rfl rfl)).trans WC;have Y:=b5l (ρ:=ez_) B (k:=2) c!;have h3:f2 Bu t4_ F_ ez_=some (.bl (m'%2==0)):=by
   exact(c4m Y rfl).trans (cV _ _)
  unfold fT;rw[h3];rfl
 unfold Ap;cases J:m'%2==0 with
 |false=>
  rw[J]at e2;refine Qk e2 ?_;exact a7g nd hA hO hO (FT _) j5 λ_=>rfl
 |true=>
  rw[J]at e2;refine ifT e2 ?_;obtain⟨h5,p5⟩:=hO.part λh=>h==5
  obtain⟨LV,WD⟩:=h5.part λh=>h==15
  have f5:=a6u (ρ:=ez_) (i:=1) (k:=5) rfl j5 rfl;refine bE f5 ?_;have WG:=a6u (os:=rh!++os.filter λo=>!(o.h==5)) (ρ:=[U_,dv!,q_,some (.lst ((rh!++os.filter λo=>!(o.h==5)).map Op.v)),none]) (i:=3) (k:=15) rfl (by rw[p5.length_eq];exact j5) rfl;refine d0h WG ?_;exact a7g nd hA hO LV (WD.trans p5) j5 λ_=>rfl
end
end K10
namespace K10
open PySem L2 DL
section
variable{P:Program}{w:World}{K:W.Frag}{mg:Str->Option Value}{base:Heap}{t:Bo}
theorem Vz(T:g_):Ok P w K mg base 1 "is_whole" o_ (Ld):=
 Je (h2:=[]) (k:=0) T.C8 xF (λhr=>(Bw (Df (Uc (Ub c1t rfl T.Q9 rfl T.Q8 Fy c8l E_) (Uc (c8b (Ub b6k rfl T.Q9 rfl T.Q6 Fy c3b E_)) (Pb (Li a6x a6y (Eh b8d c8i rfl T.Q4 c8m b1_) (Bv c6e c6m Ae Ae) r_)))))))
theorem Qf(T:g_):Ok P w K mg base 2 "is_from_one" o_ (Ib):=
 Je (h2:=[]) (k:=1) T.D1 kP (λhr=>(Bw (Df (Uc rj_ (Pb (Li d1g d1i E_ Ae r_))))))
theorem Wa(T:g_):Ok P w K mg base 2 "is_below" fX! (Nd):=
 Je (h2:=[]) (k:=1) T.C9 xH (λhr=>(Bw (Df (Uc rj_ (Pb (a0q Vx Vy a6x a6y Ae E_ al!))))))
theorem Qe(T:g_):Ok P w K mg base 3 "is_name" o_ (Ik):=
 Je (h2:=[]) (k:=2) T.D2 a2h (λhr=>(Br lT! (Bw (Df (Uc (Bg (Wa T) c_ rfl (Ai aI! (Ai (Oo T.S8 rfl) Aw)) aB_) (Pb rl_))))))
theorem Um(T:g_):Ok P w K mg base 4 "is_sign_name" o_ (Ij):=
 Je (h2:=[]) (k:=3) T.D3 iC (λhr=>(Br lT! (Bw (Df (Uc rm_ (Pb (Bg (Wa T) c_ rfl (Ai aI! (Ai lU_ Aw)) aB_)))))))
theorem a3h(T:g_):Ok P w K mg base 4 "is_item" o_ (Nc):=
 Je (h2:=[]) (k:=3) T.D4 a2i (λhr=>(Bw (Df (rR rn_ (rR ro! (Pb ro!))))))
theorem oR(T:g_):Ok P w K mg base 4 "is_sibling" o_ (Kc):=
 Je (h2:=[]) (k:=3) T.D5 oI (λhr=>(Bw (Df (rR rp! (Pb rn_)))))
theorem tR(T:g_):Ok P w K mg base 5 "is_behind" o_ (Ln):=
 Je (h2:=[]) (k:=4) T.D6 sR (λhr=>(Bw (Df (rR rp! (Pb (Bg (Um T) c_ rfl b1_ aB!))))))
theorem a3g(T:g_):Ok P w K mg base 1 "is_sign" dC! (Na):=
 Je (h2:=[]) (k:=0) T.D7 a2f (λhr=>(Bw (Df (Uc (a0q Vx Vy Vx Vy Bi E_ Bi) (Pb (Li qM qO (Eh b8b c8h rfl T.R6 c8k b1_) (Oo T.T1 rfl) r_))))))
theorem a3f(T:g_):Ok P w K mg base 2 "is_text" o_ (Sn):=
 Je (h2:=[]) (k:=1) T.D8 a2e (λhr=>(Br (Om (nK (rQ (Nf (Lg (Ub vF rfl T.Q9 rfl T.R9 Fy a4t E_))) (fJ (Nf (b7d Vx Vy Vx Vy Ae f9_ lU_))))) eC_ Hx) (Bw (Df (Eh (nS rfl) a4s rfl T.Q5 a4u (Ai (No (NL:=dC!) (NF:=[]) (ix:=[]) rfl c! r! (Dc (sc:=Ah Zn) rfl r!) Gn.nil c! rfl (c7x E_) (λ_ _ _ _ _=>Ce (i:=0) (show(dC!:List Str).Nodup by decide+kernel) rfl b_) ac_ gb! (λ_ _ _ _ _=>(Bg (a3g T) c_ rfl b1_ aB!))) Aw))))))
theorem gH(T:g_):Ok P w K mg base 3 "is_place" o_ (Ia):=
 Je (h2:=[]) (k:=2) T.D9 xG (λhr=>(Bw (Df (Bg (Wa T) c_ rfl (Ai E_ (Ai (Oo T.T0 rfl) Aw)) aB_))))
theorem Pj{g:X!}{ps:p!}{k:Nat}(h:Ok P w K mg base k x ps g)(hm:mg x=some bS!)(hp:S_=1)(hk:k<=5):∃fd ps,S_=1/\Ks P w K mg base iR 5 σ fd ps jW!/\Jx K fd ps []/\W.keepIn K bS!=true:=by obtain⟨f',fd,B,Y,h3,h4⟩:=h;rw[hm]at h3;cases h3;exact⟨fd,ps,hp,B.mono hk,Y,h4⟩
theorem c2f(T:g_):c4v P w K mg base 5 1 (Vc t):=by
 intro σ g e;unfold Vc at e;show"!7"
 .show"!6";exact Pj (a3h T) T.T3 rfl c!
 show"!7"
 .show"!6";exact Pj (oR T) T.T4 rfl c!
 show"!7"
 .show"!6";exact Pj (tR T) T.T5 rfl c!
 show"!7"
 .show"!6";exact Pj (a3f T) T.T6 rfl c!
 show"!7"
 .show"!6";exact Pj (Um T) T.T7 rfl c!
 show"!7"
 .show"!6";exact Pj (Qf T) T.T8 rfl c!
 show"!7"
 .show"!6";exact Pj (gH T) T.T9 rfl c!
 show"!7"
 .show"!6";exact Pj (Vz T) T.U0 rfl c!
 show"!7"
 .show"!6";exact Pj (Qe T) T.U1 rfl c!
 cases e
theorem Tj(T:g_):Hl P w K mg base 1 t.B3 "have" f2! (Ix t):=
 Eb (h2:=[]) (k:=0) T.U2 T.K8 sW (λhr=>(Am (Cq (mD Ff b7w rfl T.R0 Jd (Aj (mB w_ eE! v! lY_ c1!) Az)))))
theorem a3k(T:g_):b1f P w K mg base 1 "Hand" t.B3 f1_ (Sr t):=
 tV (h2:=[]) (k:=0) T.K7 a2k (λhr=>(Al (Me T.U2 T.V3 o! v!) (Al (Me T.U2 T.V4 o! Kt) (Al (Me T.U2 T.V5 o! (uB Az)) ru!))))
theorem b4y(T:g_):Ok P w K mg base 1 "_law_cell" cU! (cP):=
 Je (h2:=[]) (k:=0) T.O2 b2p (λhr=>(Br (Om (a0k E_) rv! Hx) (Bw (Df Ae))))
theorem tU(T:g_):Ve P w K mg base 1 "_law_children" b0! (Oj):=
 Ec (h2:=[]) (k:=0) T.P8 sV (λhr=>(Am (Cq (Qw (NL:=bK!) (NF:=[aY_]) (ix:=[1]) rfl c! r! (Dc (sc:=Ah Ta) rfl r!) l1_ c! rfl (Jm bf!) ik! ac_ l2_ l3!))))
theorem Md(T:g_):Ok P w K mg base 2 "_law_mix" cU! (Ee):=
 Je (h2:=[]) (k:=1) T.O3 sU (λhr=>(Br (Lh (i:=2) sU.nd rfl b_ (Bv Kh Ki (Bv Bc Cz (Bg (b4y T) c_ rfl (Ai E_ ge!) aB_) (Bv eM eP Ae rz!)) Ae)) (Br (Lh (i:=2) sU.nd rfl b_ (Bv Kh Ki (Bv eM eP aC_ Ae) Ae)) (Bw (Df (Bv Kh Ki (Bv Bc Cz (Bv eM eP (Bv Xv Xw aC_ Ae) Ae) aC_) Ae))))))
theorem b0c(T:g_):Ok P w K mg base 1 "_law_items" aA! (Xe):=
 Je (h2:=[]) (k:=0) T.O4 a9c (λhr=>(Bw (Df (Bv Bc Cz (Bv Bc Cz (Ng (n:=8) rfl) (No (NL:=bK!) (NF:=[]) (ix:=[]) rfl c! r! (Dc (sc:=Ah dR) rfl r!) Gn.nil c! rfl il_ eF_ ac_ (λ_ _ _ _ _=>yK (Co as_ Dm l4_ Bi r_)) rB_)) (Ng (n:=12) rfl)))))
theorem b0a(T:g_):Ok P w K mg base 1 "_law_signs" aA! (Xc):=
 Je (h2:=[]) (k:=0) T.O5 Xp (λhr=>(Br (aK (i:=1) Xp.nd rfl b_ (Ai Gv (Ai xE_ Aw))) (Br (a4k BR rfl il_ Xp.nd rfl b_ (Bw (Om (Co as_ Dm im_ Bi r_) (Bw (a4k BR rfl (On rfl T.R7 (Eh Ff Jj rfl T.R0 Jd (Ai im_ Aw))) Xp.nd rfl b_ (Bw (fK (i:=1) c! (Gk (Ai a2_ (Ai a2_ in!))))))) Hx))) (a0l (Bw (Df al!))))))
theorem b4u(T:g_):Ok P w K mg base 1 "_law_text" lF! (cN):=
 Je (h2:=[]) (k:=0) T.O6 xK (λhr=>(Br (Lh (i:=2) xK.nd rfl bm! Bi) (Bw (Df (c2q Bi (No (NL:=[aY!]) (NF:=[cT_,lE!]) (ix:=[0,2]) rfl c! r! (Dc (sc:=Ah kC) rfl r!) (Gn.cons (j:=0) rH!) c! rfl (On rfl T.R7 (Bv Bc Cz Ae (Bv Kh Ki E_ al!))) (λ_ _ _ _ _=>Ce (i:=0) (show([aY!,cT_,lE!]:List Str).Nodup by decide+kernel) rfl b_) ac_ gb! (λ_ _ _ _ _=>(Av An Au aC_ (Bv Kh Ki (Bv Xv Xw al! (Bv Bc Cz Ae (Bv eM eP Ae E_))) Ae) s_))))))))
theorem Sg(T:g_):Ok P w K mg base 1 "_law_pick" f3_ (Hu):=
 Je (h2:=[]) (k:=0) T.O7 b2n (λhr=>rv!)
theorem b4x(T:g_):Ok P w K mg base 3 "_law_deed" lG_ (Tx):=
 Je (h2:=[]) (k:=2) T.O8 Ko (λhr=>(Br (Lh (i:=4) Ko.nd rfl b_ (Bg (Md T) c_ rfl (Ai E_ ge!) aB_)) (Br (Lh (i:=5) Ko.nd rfl b_ (Bg (b0c T) c_ rfl dJ! aB!)) (Br (Lh (i:=6) Ko.nd rfl b_ (Bg gi_ c_ rfl (Ai (Bv Bc Cz (Hy aD_ dH! Jq) (Hy aD_ Jq dH!)) gj!) aB_)) (Br (Lh (i:=7) Ko.nd rfl b_ (Bg gi_ c_ rfl (Ai (Bv Bc Cz aD_ l8_) gj!) aB_)) (Br (Om (Lg (Ub vF rfl T.Q9 rfl T.R9 Fy a4t dJ_)) (Bw (Lh (i:=7) Ko.nd rfl b_ Gv)) Hx) (Br (Lh (i:=8) Ko.nd rfl b_ (Ng (n:=19) rfl)) (Br (Lh (i:=9) Ko.nd rfl b_ (Av An Au ck_ x7! s_)) (Br (Om gj_ (Bw (Df (Gk (Ai cu_ rL!)))) Hx) (Br (Om gj_ (Bw (Df (Gk (Ai cu_ (Ai bL_ rL!))))) Hx) (Br (Om gj_ (Bw (Df (Gk (Ai cu_ (Ai bL_ Aw))))) Hx) (Br (Lh (i:=10) Ko.nd rfl b_ (Bg gi_ c_ rfl (Ai (Bg (b0a T) c_ rfl dJ! aB!) gj!) aB_)) (Br (Om gj_ (Bw (Df (Gk (Ai cu_ (Ai bL_ (Ai is_ (Ai (Bg (b4u T) c_ rfl (Ai rK! in!) aB_) Aw))))))) Hx) (Br (Om (nK (nJ gj_ (cX (Co Xt Xy is_ Gv r_)))) (Bw (Df (Gk (Ai cu_ (Ai bL_ (Ai is_ (Ai (Bv Bc Cz Ae (Bv Kh Ki rR! (Bv eL eV Ae (Av An Au is_ Ae s_)))) Aw))))))) Hx) (Br (Om (Co a9u d1k cu_ l8_ rfl) (Bw (Df (Gk (Ai Bi (Ai bL_ (Ai rR_ (Ai (Bv eL eV rR_ Ae) Aw))))))) Hx) (Br (Lh (i:=11) Ko.nd rfl b_ (Bv Bc Cz (No (NL:=bK!) (NF:=[]) (ix:=[]) rfl c! r! (Dc (sc:=Ah kH) rfl r!) Gn.nil c! rfl (Jr aC_) eF_ ac_ gb! rB_) (fL (Ai (Gk (Ai Ae (Ai (Bv Bc Cz Ae x7!) Aw))) Aw)))) (Bw (Df (Gk (Ai cu_ (Ai (Bg gi_ c_ rfl (Ai (Ab 11) gj!) aB_) Aw)))))))))))))))))))))
theorem yS(T:g_):Ve P w K mg base 1 "_law_hang" cV_ (Mj):=
 Ec (h2:=[]) (k:=0) T.P3 Sb (λhr=>(Al (bR (i:=4) (NL:=bK!) (NF:=[aY_]) (ix:=[1]) Sb.nd rfl b_ rfl c! r! (Dc (sc:=Ah kE) rfl r!) l1_ c! rfl (Jm bf!) ik! ac_ (λ_ _ _ _ _=>gK (Jz (Co bM! Wg aI! al! r_))) iw!) (Al (Cd (i:=5) Sb.nd rfl b_ aJ_) (Al (Sh BR (Jz (nK (nJ (Co a6x a6y aD_ rZ! r_) (cX (Co bM! Wg (Av An Au (Av An Au bf_ aD_ s_) Ae s_) aC_ r_))))) (Am (Cd (i:=5) Sb.nd rfl b_ (Af (Bv Bc Cz aD_ Ae))))) (Al (Kl BR rfl (eX (On rfl T.R7 rZ!)) (Ce (i:=6) Sb.nd rfl b_) (Hc 6) (Am (Ef (Jz (nK (nJ (Co Xt Xy aD! Gv r_) (cX (Co as_ Dm (Av An Au bf_ bL_ s_) (Gk (Ai aD! dJ!)) r_))))) (Am (Cd (i:=5) Sb.nd rfl b_ (Af (Bv Bc Cz bL_ Ae)))) Db))) (Am (Gr w_ o! be_ (Af (Bv Bc Cz (Bv Bc Cz (Hy bf_ Jq (Jp aD_)) (fL (Ai (Gk (Ai al! dJ!)) Aw))) (Hy bf_ (Jp aD_) Jq))))))))))
theorem b4w(T:g_):Ve P w K mg base 1 "_law_lies" lI_ (Yd):=
 Ec (h2:=[]) (k:=0) T.P4 kS (λhr=>(Al (Sh BR (Jz r6!) (Al (bR (i:=3) (NL:=bK!) (NF:=[aY_]) (ix:=[1]) kS.nd rfl b_ rfl c! r! (Dc (sc:=Ah kD) rfl r!) l1_ c! rfl (Jm bf!) ik! ac_ l2_ l3!) (Al (Ef (Jz (Nf (a0k aD!))) dM! Db) (Am (Cd (i:=1) kS.nd rfl bm! gp!))))) dM!))
theorem yR(T:g_):Ve P w K mg base 2 "_law_move" cV_ (Ra):=
 Ec (h2:=[]) (k:=1) T.P5 b2o (λhr=>(Am (Ef (oU (aA (Hj b5_ Kj v! bf! rfl) (Tl (oU (b5h (Hj b5_ Kj M! bf! rfl) (a3p (Hj b5_ Kj M! gp_ rfl))))))) (Am (Ef (aB (Ky (Bf (b4w T) c_ rfl (Aj o! mm_)))) (Am (Fm (Bf (yS T) c_ rfl (Aj o! (Aj v! mn_))))) Db)) Db)))
theorem c6n(T:g_):Ve P w K mg base 3 "_law_do" lK! (a7p):=
 Ec (h2:=[]) (k:=2) T.P6 Py (λhr=>(Al (Cd (i:=2) Py.nd rfl bm! gq!) (Al (Cd (i:=3) Py.nd rfl bm! (Af (Gk (Ai eL_ (Ai eL_ Aw))))) (Am (Ef b6! (Al (Cd (i:=4) Py.nd rfl b_ (c4h (Tq b5_ Kj by_ bf! rfl) (lZ (Af (Li as_ Dm a2_ Bi r_))))) (Al (Gr w_ bf! aR! lY_) (Al (Gr w_ bf! aR! (uB (Aj aJ_ (Aj aJ_ (Aj aJ_ ms!))))) (Am (Fm (Bf (yS T) c_ rfl (Aj o! (Aj aR! (Aj (Af (d2q (Lg bf_) a2_ Bi)) iy_))))))))) (Am (Ef b6! (Am (Fm (Bf (yR T) c_ rfl (Aj o! gq_)))) (Am (Ef b6! (Am (Fm (Bf (yR T) c_ rfl (Aj o! sk_)))) (Am (Ef mt_ (Am (Gr w_ sm! by_ by_)) (Am (Ef mt_ (Al sm_ (Al (Cd (i:=6) Py.nd rfl b_ aJ_) (Al (Kl BR rfl (eX (On rfl T.R7 (Eh Ff Jj rfl T.R0 Jd (Ai aD_ Aw)))) (Ce (i:=7) Py.nd rfl b_) (Hc 7) (Am (Ef (Jz (Co as_ Dm (Av An Au (Av An Au aD_ dJ_ s_) Ae s_) a2_ r_)) (Am (Cd (i:=6) Py.nd rfl b_ (Af (Bv Bc Cz dJ_ Ae)))) Db))) (Al (bR (i:=8) (NL:=[aY!]) (NF:=[ey!,lJ!]) (ix:=[2,3]) Py.nd rfl b_ rfl c! r! mv_ (Gn.cons (j:=2) mw!) c! rfl (eX (On rfl T.R7 (Eh Ff Jj rfl T.R0 Jd (Ai a2_ Aw)))) (λ_ _ _ _ _=>Ce (i:=0) (show([aY!,ey!,lJ!]:List Str).Nodup by decide+kernel) rfl b_) ac_ gs! (λ_ _ _ _ _=>(Af (Gk (Ai (Bv Bc Cz aC_ (Gk b1_)) (Ai (Av An Au eL_ E_ s_) (Ai Kd Aw))))))) (Am (Gr w_ bf! by_ (Af (Bv Bc Cz (Bv Bc Cz (Hy aD_ Jq (Jp bL_)) ck_) (Hy aD_ (Jp bL_) Jq))))))))) (Am (Ef mt_ (Al (Cd (i:=9) Py.nd rfl bm! (Qw (NL:=[aY!]) (NF:=[ey!]) (ix:=[2]) rfl c! r! mv_ rH! c! rfl (eX (On rfl T.R7 a2_)) (λ_ _ _ _ _=>Ce (i:=0) (show([aY!,ey!]:List Str).Nodup by decide+kernel) rfl b_) ac_ gs! (λ_ _ _ _ _=>(Af (Bv Bc Cz (Hy eL_ Jq dH!) (Gk (Ai (Bv Bc Cz (Av An Au eL_ Ae s_) E_) Aw))))))) (Al sm_ (Am (Gr w_ bf! by_ (Qw (NL:=[iC!]) (NF:=[lJ_]) (ix:=[9]) rfl c! r! mv_ (Gn.cons (j:=9) Gn.nil) c! rfl (eX (Jr aD_)) (λ_ _ _ _ _=>Ce (i:=0) (show([iC!,lJ_]:List Str).Nodup by decide+kernel) rfl b_) ac_ gs! (λ_ _ _ _ _=>(b5p (Aj gd_ (Aj gd_ (Aj (uC gd_ (lZ (Tq iD! Kj gd_ v! rfl))) Az)))))))))) Db)))))))))))))))
theorem gJ(T:g_):Ve P w K mg base 1 "_law_ordered" aA! (Ic):=
 Ec (h2:=[]) (k:=0) T.P0 Nx (λhr=>(Al (b5j (aK (i:=1) Nx.nd rfl b_ Aw)) (Al (Kl BR rfl (eX il_) (Ce (i:=2) Nx.nd rfl b_) (Hc 2) (Al (Cd (i:=3) Nx.nd rfl b_ (Af (a7x mA!))) (Al (Sh BR (Jz (nK (nJ (Co c4c c4d aD! Ae r_) (cX (Co (c6k (Ax.units0 hr)) c6r (Gk (Ai sC_ (Ai sC_ Aw))) (Gk (Ai a2_ (Ai a2_ Aw))) r_))))) (Am (Cd (i:=3) Nx.nd rfl b_ (Af sC!)))) (Am (b5j (b0y (i:=1) c! aD! aC_)))))) (lU dP!))))
theorem a3j(T:g_):Ve P w K mg base 2 "_law_undone" aA! (Sq):=
 Ec (h2:=[]) (k:=1) T.P1 Zs (λhr=>(Al (Cd (i:=1) Zs.nd rfl b_ Kt) (Al (Kl BR rfl sF! (Ce (i:=2) Zs.nd rfl b_) (Hc 2) (Am (Ef (Hj b5_ Kj iE_ gp_ rfl) (Am (Gr w_ v! iE_ (Af (Li as_ Dm im_ Bi r_)))) Db))) dP!)))
theorem b4v(T:g_):Ve P w K mg base 4 "_law_play" aA! (cO):=
 Ec (h2:=[]) (k:=3) T.P7 bF (λhr=>(Al (Cd (i:=1) bF.nd rfl b_ (bV w_ (Pk be_ lY_ (Pk be_ Kt (Pk be_ Kt lV))))) (Al (Cd (i:=2) bF.nd rfl b_ (Bf (a3j T) c_ rfl cw_)) (Al (Kl BR rfl sF! (Ce (i:=3) bF.nd rfl b_) c3! (Am (Ef (oU (aA (Hj iD! Kj (Af (Av An Au iy! Ae s_)) gp_ rfl) (Tl (aB (Ky (mB w_ M! (Af (Gk (Ai iy! (Ai iy! Aw)))) eK! c1!)))))) (Am (Fm (Bf (c6n T) c_ rfl mC!))) Db))) dP!))))
theorem lR(T:g_):Ve P w K mg base 1 "_law_shown_text" b0! (Nm):=
 Ec (h2:=[]) (k:=0) T.P9 kR (λhr=>(Am (Cq (a7e (Qw (NL:=[iC!]) (NF:=[]) (ix:=[]) rfl c! r! (Dc (sc:=Ah Pt) rfl r!) Gn.nil c! rfl (Jm (Do P! Cj bf! v! s_)) (λ_ _ _ _ _=>Ce (i:=0) (show([iC!]:List Str).Nodup by decide+kernel) rfl b_) ac_ (λ_ _ _ _ _=>gK (Jz (Lg aI!))) l3!)))))
theorem Mc(T:g_):Hl P w K mg base 1 t.B4 "has" K! gc_:=
 Eb (h2:=[]) (k:=0) T.U3 T.F9 kQ (λhr=>(Am (Cq (Tq b5_ Kj v! eO_ rfl))))
theorem eQ(T:g_):Ok P w K mg base 1 "time_and_hand" bF_ (Gh):=
 Je (h2:=[]) (k:=0) T.E4 dY (λhr=>(Bw (Df rB!)))
theorem Wb(T:g_):Ok P w K mg base 4 "in_order" aX_ (Gj):=
 Je (h2:=[]) (k:=3) T.E5 xI (λhr=>(Bw (Df (b7n (eQ T) (Ax.in1 (Ax.in1 c_)) rfl rfl T.R8 E_))))
theorem Xx(T:g_):b1f P w K mg base 1 "Row" t.B5 aO_ (Oh t):=
 tV (h2:=[]) (k:=0) T.E6 a9b (λhr=>(Al (Me T.U4 T.U5 o! sM!) (Am (Me T.U4 T.U6 o! sM!))))
theorem oS(T:g_):b1f P w K mg base 3 "Outline" t.B4 aO_ (Pn t):=
 tV (h2:=[]) (k:=2) T.F8 oJ (λhr=>(Al (Me T.U3 T.U7 o! (bV w_ (Pk be_ cu! (Pk be_ cu! lV)))) (Al (Me T.U3 T.U8 o! (bV w_ (Pk be_ iJ! (Pk be_ iJ! lV)))) (Al (Me T.U3 T.U9 o! Kt) (Al (Me T.U3 T.V0 o! Kt) (Al (Me T.U3 T.V1 o! Kt) (Am (Me T.U3 T.V2 o! Kt))))))))
theorem Qd(T:g_):Ok P w K mg base 1 "is_undo_or_redo" bF_ (Ch):=
 Je (h2:=[]) (k:=0) T.J8 Zq (λhr=>(Bw (Df (rR sQ! (Pb sQ!)))))
theorem oQ(T:g_):Ve P w K mg base 5 "last_words" aX_ (Kb):=
 Ec (h2:=[]) (k:=4) T.J9 Rf (λhr=>(Al (Cd (i:=1) Rf.nd rfl b_ Kt) (Al (Kl BR rfl sR_ (Ce (i:=2) Rf.nd rfl b_) (Hc 2) (Am (Ef (Jz (Lg (Bg (Qd T) c_ rfl dJ! aB!))) (Am (Gr w_ v! iE_ iE_)) Db))) dP!)))
theorem a9v(T:g_):Ve P w K mg base 6 "undone" aX_ (Sl):=
 Ec (h2:=[]) (k:=5) T.K0 Rz (λhr=>(Al (Cd (i:=1) Rz.nd rfl b_ (Bf (oQ T) c_ rfl cw_)) (Al (Cd (i:=2) Rz.nd rfl b_ Kt) (Al (Kl BR rfl (eX il_) (Ce (i:=3) Rz.nd rfl b_) c3! (Al (Cd (i:=4) Rz.nd rfl b_ mE_) (Am (Ef (oU (aA (Jz (Nf (Lg (Bg (Qd T) c_ rfl in! aB!)))) (Tl (Hj as_ iK! (b5r w_ v! bz_ c1!) be_ r_)))) (Am (Gr w_ M! bz_ eK!)) Db)))) gu_))))
theorem bQ(T:g_):Hl P w K mg base 1 t.B5 "holds" K! (Oi t):=
 Eb (h2:=[]) (k:=0) T.U4 T.E7 sT (λhr=>(Am (Cq (uC sV! (lZ (Tq b5_ Kj v! c3_ rfl))))))
theorem Mb(T:g_):Hl P w K mg base 2 t.B5 "put_behind" lx_ (Fs t):=
 Eb (h2:=[]) (k:=1) T.U4 T.E8 Lv (λhr=>(Al (Cd (i:=3) Lv.nd rfl b_ (c4i (Ky (Dh (bQ T) c_ o! gv!)) M! cu!)) (Al (Cd (i:=4) Lv.nd rfl b_ (Do P! Cj c3_ aR! s_)) (Al (Gr w_ c3_ aR! v!) (Al (Gr w_ iL! v! aR!) (Al (Gr w_ c3_ v! bz_) (Am (Gr w_ iL! bz_ v!))))))))
theorem lP(T:g_):Hl P w K mg base 3 t.B4 "put" cS_ (Ro t):=
 Eb (h2:=[]) (k:=2) T.U3 T.G8 Vl (λhr=>(Al (Cd (i:=4) Vl.nd rfl b_ (c4i (Ky sY!) M! be_)) (Al (Gr w_ mF_ v! bz_) (Al (Fm (Dh (Mb T) c_ (Do P! Cj eO_ bz_ s_) mC!)) (Al (Gr w_ eO_ v! iJ!) (Al (Gr w_ iM! v! iJ!) (Am (Gr w_ sZ! v! (c1h ms! (Af (Oo T.T0 rfl)))))))))))
theorem iL(T:g_):Hl P w K mg base 1 t.B5 "take_out" K! (Qn t):=
 Eb (h2:=[]) (k:=0) T.U4 T.E9 Ov (λhr=>(Al (Cd (i:=2) Ov.nd rfl b_ (b5q w_ iL! v! c1!)) (Al (Cd (i:=3) Ov.nd rfl b_ (b5q w_ c3_ v! c1!)) (Al (Gr w_ c3_ M! aR!) (Am (Gr w_ iL! aR! M!))))))
theorem Go(T:g_):Hl P w K mg base 1 t.B4 "has_item" K! (Dx t):=
 Eb (h2:=[]) (k:=0) T.U3 T.G6 Yi (λhr=>(Am (Cq (Tq b5_ Kj v! iM! rfl))))
theorem We(T:g_):Hl P w K mg base 1 t.B4 "is_within" fZ! (Kn t):=
 Eb (h2:=[]) (k:=0) T.U3 T.G7 Nw (λhr=>(Al (Sh BR (Jz (nK (nJ (Co Xt Xy al! Gv r_) (cX r6!)))) (Am (Cd (i:=1) Nw.nd rfl b_ mG!))) (Am (Cq sV!))))
theorem Ym(T:g_):Hl P w K mg base 2 t.B4 "can_move" fZ_ (Lf t):=
 Eb (h2:=[]) (k:=1) T.U3 T.G9 Yj (λhr=>(Am (Cq (uC mG_ (uC sY! (lZ (c6t (Dh (We T) c_ o! mm_))))))))
theorem Uo(T:g_):Hl P w K mg base 3 t.B4 "move" cS_ (Mi t):=
 Eb (h2:=[]) (k:=2) T.U3 T.H9 iE (λhr=>(Al (Ef (aB (Ky (Dh (Ym T) c_ o! (Aj v! gv!)))) (Am tZ) Db) (Al (Fm (Dh (iL T) c_ (Do P! Cj eO_ mG! s_) aQ_)) (Al (Fm (Dh (Mb T) c_ (Do P! Cj eO_ M! s_) mC!)) (Am (Gr w_ mF_ v! M!))))))
theorem eU(T:g_):Hl P w K mg base 3 t.B4 "write" lz_ (Pa t):=
 Eb (h2:=[]) (k:=2) T.U3 T.J0 Gy (λhr=>(Al (Ef (aB (Ky (Dh (Go T) c_ o! gv!))) (Am tZ) Db) (Al (Cd (i:=5) Gy.nd rfl b_ aR!) (Am (Kl BR rfl (eX (b7m rfl T.Q7 bf_)) (b4f rfl (bM (Ce (i:=6) Gy.nd rfl b_) (bM (Ce (i:=7) Gy.nd rfl b_) a6p))) (b6t 6 7) (Al (Cd (i:=8) Gy.nd rfl b_ (Af (Bv Bc Cz al! (Gk (Ai bL_ Aw))))) (Al (Fm (Dh (Mb T) c_ (Do P! Cj iM! M! s_) (Aj (Af ck_) s8!))) (Al (Gr w_ (Cn T.U3 T.V1 o!) (Af ck_) (Af dJ_)) (Am (Cd (i:=5) Gy.nd rfl b_ (Af ck_)))))))))))
theorem lQ(T:g_):Hl P w K mg base 2 t.B4 "cut" lA! (Rp t):=
 Eb (h2:=[]) (k:=1) T.U3 T.J1 Px (λhr=>(Al (Ef (aB (Ky mG_)) (Am tZ) Db) (Am (Kl BR rfl (eX (b0z rfl T.R7 a2_ (Bv Bc Cz a2_ aD!))) (Ce (i:=4) Px.nd rfl b_) (Hc 4) (Al (Cd (i:=5) Px.nd rfl b_ (Af (Bv Bc Cz (Hy aC_ Jq dH!) (Gk (Ai bf_ Aw))))) (Am (Ef (Ky (Dh (bQ T) c_ td_ s8!)) (Am (Gr w_ (Cn T.U3 T.V2 o!) (Af aD_) eK!)) Db)))))))
theorem Uz(T:g_):Hl P w K mg base 2 t.B4 "set_number" f0! (Jw t):=
 Eb (h2:=[]) (k:=1) T.U3 T.J2 Ut (λhr=>(Am (Ef (Ky mG_) (Am (Gr w_ tg_ M! aR!)) Db)))
theorem c1e(T:g_):Ve P w K mg base 4 "play" f0_ (aH t):=
 Ec (h2:=[]) (k:=3) T.K4 b9r (λhr=>(Am (Ef b6! (Am (Fm (Dh (lP T) c_ o! (Aj v! (Aj by_ iy_))))) (Am (Ef b6! (Am (Fm (Dh (Uo T) c_ o! gq_))) (Am (Ef b6! (Am (Fm (Dh (Uo T) c_ o! sk_))) (Am (Ef b6! (Am (Fm (Dh (eU T) c_ o! (Aj v! gq_)))) (Am (Ef b6! (Am (Fm (Dh (lQ T) c_ o! gq_))) (Am (Ef b6! (Am (Fm (Dh (Uz T) c_ o! gq_))) Db)))))))))))))
theorem a9w(T:g_):Ve P w K mg base 7 "played" aX_ (Ql t):=
 Ec (h2:=[]) (k:=6) T.K6 Sa (λhr=>(Al (Cd (i:=1) Sa.nd rfl b_ (Wj (oS T) c_ rfl)) (Al (Cd (i:=2) Sa.nd rfl b_ (Bf (a9v T) c_ rfl cw_)) (Al (Kl BR rfl sR_ (Ce (i:=3) Sa.nd rfl b_) c3! (Al (Cd (i:=4) Sa.nd rfl b_ mE_) (Am (Ef (Hj iD! Kj bz_ M! rfl) (Am (Fm (Bf (c1e T) c_ rfl (Aj v! (Aj bz_ (Aj gp! Az)))))) Db)))) dP!))))
theorem tT(T:g_):Ve P w K mg base 5 "all_taken" bt! (Jv t):=
 Ec (h2:=[]) (k:=4) T.K9 Td (λhr=>(Al (b5j (aK (i:=1) Td.nd rfl b_ Aw)) (Al (Kl BR rfl (b5o eE!) (Ce (i:=2) Td.nd rfl b_) (Hc 2) (Am (b0k (i:=1) c! (Do P! Cj eE! M! s_)))) (lU (Am (Cq (Af (Bg (Wb T) c_ rfl ge! aB!))))))))
theorem Rk(T:g_):Ve P w K mg base 8 "outline_of" bt! (Es t):=
 Ec (h2:=[]) (k:=7) T.L0 oH (λhr=>(Al (Ef (Hj a3c (Po.m a3l) tu_ cu! r_) (Am (Me T.U2 T.V6 o! (Bf (a9w T) c_ rfl (Aj (Bf (tT T) c_ rfl cw_) Az)))) Db) (Am (Cq tu_))))
theorem yP(T:g_):Ve P w K mg base 9 "there" V! gC!:=
 Ec (h2:=[]) (k:=8) T.N7 b2m (λhr=>(Am (Cq (Dh (Mc T) c_ mN! aQ_))))
theorem Wc(T:g_):Hl P w K mg base 1 t.B4 "parent_of" K! (Ih t):=
 Eb (h2:=[]) (k:=0) T.U3 T.J3 Vm (λhr=>(Am (Cq mG!)))
theorem Jt(T:g_):Ve P w K mg base 9 "outline_with_item" V! (Dp t):=
 Ec (h2:=[]) (k:=8) T.N5 Nv (λhr=>(Al (Cd (i:=2) Nv.nd rfl b_ mN!) (Al (Ef (aB (Ky (Dh (Go T) c_ M! aQ_))) dU! Db) gu_)))
theorem a9x(T:g_):Ve P w K mg base 10 "parent" V! (cM t):=
 Ec (h2:=[]) (k:=9) T.N8 a8y (λhr=>(Am (Cq (Dh (Wc T) c_ mQ! aQ_))))
theorem Zc(T:g_):Hl P w K mg base 1 t.B5 "listed" aO_ (Pm t):=
 Eb (h2:=[]) (k:=0) T.U4 T.F7 Ni (λhr=>(Al (b5j (aK (i:=1) Ni.nd rfl b_ Aw)) (Al (Cd (i:=2) Ni.nd rfl b_ (Do P! Cj c3_ cu! s_)) (Al (Sh BR (Jz (Co Xt Xy aC_ Gv r_)) (Al (b5j (fK (i:=1) c! aC_)) (Am (Cd (i:=2) Ni.nd rfl b_ (Do P! Cj c3_ M! s_))))) (lU dP!)))))
theorem Ti(T:g_):Hl P w K mg base 2 t.B4 "children_of" K! (Hg t):=
 Eb (h2:=[]) (k:=1) T.U3 T.J4 Te (λhr=>(Am (Cq (zE (Zc T) c_ (Do P! Cj eO_ v! s_)))))
theorem iJ(T:g_):Ve P w K mg base 9 "outline_with" lD_ (Mg t):=
 Ec (h2:=[]) (k:=8) T.N4 Uj (λhr=>(Al (Cd (i:=2) Uj.nd rfl b_ mN!) (Al (Ef (aB (Ky (Dh (Mc T) c_ M! aQ_))) dU! Db) gu_)))
theorem yQ(T:g_):Ve P w K mg base 10 "children" V! (Qm t):=
 Ec (h2:=[]) (k:=9) T.N9 xJ (λhr=>(Am (Cq (Dh (Ti T) c_ (Bf (iJ T) c_ rfl dU_) aQ_))))
theorem Yl(T:g_):Hl P w K mg base 2 t.B4 "signs_of" aP! (Hd t):=
 Eb (h2:=[]) (k:=1) T.U3 T.J5 Yh (λhr=>(Am (Cq (Qw (NL:=[ar!]) (NF:=aO_) (ix:=[0]) rfl c! r! (Dc (sc:=Ah Kg) rfl r!) mW_ c! rfl (Jm (zE (Zc T) c_ td_)) tF! ac_ (λ_ _ _ _ _=>gK (Hj iD! Kj o! (Cn T.U3 T.V2 v!) rfl)) iw!))))
theorem Zz(T:g_):Hl P w K mg base 3 t.B4 "text_of" aP! (Jo t):=
 Eb (h2:=[]) (k:=2) T.U3 T.J6 Zr (λhr=>(Am (Cq (a7e (Qw (NL:=[ar!]) (NF:=aO_) (ix:=[0]) rfl c! r! (Dc (sc:=Ah Kx) rfl r!) mW_ c! rfl (Jm (Dh (Yl T) c_ o! aQ_)) tF! ac_ gs! (λ_ _ _ _ _=>(Do P! Cj (Cn T.U3 T.V1 v!) o! s_)))))))
theorem c1c(T:g_):Ve P w K mg base 10 "text" V! (vO t):=
 Ec (h2:=[]) (k:=9) T.O0 b9q (λhr=>(Am (Cq (Dh (Zz T) c_ mQ! aQ_))))
theorem Va(T:g_):Hl P w K mg base 1 t.B4 "numbers_of" aP! (Ht t):=
 Eb (h2:=[]) (k:=0) T.U3 T.J7 Uu (λhr=>(Am (Cq (qU dB c2y rfl T.R4 wB (Aj tg_ Az)))))
theorem Th(T:g_):Ve P w K mg base 10 "outline_with_number" bZ_ (Hf t):=
 Ec (h2:=[]) (k:=9) T.N6 Tc (λhr=>(Al (Ef (Jz (Nf (Lg (Bg (gH T) c_ rfl dJ! aB!)))) dU! Db) (Am (Cq mQ!))))
theorem a9y(T:g_):Ve P w K mg base 11 "number" bZ_ (Xa t):=
 Ec (h2:=[]) (k:=10) T.O1 a8z (λhr=>(Am (Cq (Do P! Cj (Dh (Va T) c_ (Bf (Th T) c_ rfl (Aj o! (Aj v! gv!))) aQ_) M! s_))))
theorem b0b(T:g_):Ve P w K mg base 12 "_law_shows" lK_ (Xd t):=
 Ec (h2:=[]) (k:=11) T.Q0 Xq (λhr=>(Al (Cd (i:=2) Xq.nd rfl b_ (Bf (b4v T) c_ rfl aQ_)) (Al (Kl BR rfl (Jm (a7d Bc iZ gp_ (qU (pN rfl) b7x rfl T.R4 wB (Aj iX_ Az)))) tM! c3! (Am (Ef (oU (b5h (Hj a9t (Po.m b4z) (Bf (yP T) c_ rfl eW!) eK! r_) (a3p (Hj bM! lN (Bf (yQ T) c_ rfl eW!) (Bf (tU T) c_ rfl mn_) r_)))) dM! Db))) (Al (Kl BR rfl (b5o iX_) tM! c3! (Al (Ef (Hj bM! lN (Bf (c1c T) c_ rfl eW!) (Bf (lR T) c_ rfl mn_) r_) dM! Db) (Al (Ef (Hj bM! lN (c6u (Aj (b5p (Aj aR! (Aj (Bf (a9x T) c_ rfl eW!) Az))) Az)) (Qw (NL:=bK!) (NF:=[aY_]) (ix:=[3]) rfl c! r! tS_ mw! c! rfl (Jm iX_) ik! ac_ l2_ iw!) r_) dM! Db) (Am (Ef (Hj bM! lN (Qw (NL:=[aY!]) (NF:=[f4!,aY_]) (ix:=[0,3]) rfl c! r! tS_ (Gn.cons (j:=0) mw!) c! rfl (eX (On rfl T.R7 Ae)) (λ_ _ _ _ _=>Ce (i:=0) (show([aY!,f4!,aY_]:List Str).Nodup by decide+kernel) rfl b_) ac_ gs! (λ_ _ _ _ _=>(Bf (a9y T) c_ rfl (Aj v! (Aj M! cw_))))) (Do P! Cj iX_ aR! s_) r_) dM! Db))))) (Am (Cq (Tq c6h (Po.m b4z) (Bf (yP T) c_ rfl (Aj o! (Aj gp_ Az))) eK! r_)))))))
theorem a9z(T:g_):Ok P w K mg base 4 "_law_world" lH_ (So):=
 Je (h2:=[]) (k:=3) T.O9 Lk (λhr=>(Br (aK (i:=3) Lk.nd rfl b_ Aw) (Br (aK (i:=4) Lk.nd rfl b_ tW!) (Br (aK (i:=5) Lk.nd rfl b_ tW!) (Br (a4k BR rfl (On rfl T.R7 aC_) Lk.nd rfl b_ (Br (Lh (i:=7) Lk.nd rfl b_ (Bg (Md T) c_ rfl (Ai E_ (Ai tW_ Aw)) aB_)) (Br (Lh (i:=8) Lk.nd rfl b_ (Bv Kh Ki dJ_ Ae)) (Br (b7e (i:=4) c! ck_ (Bv Bc Cz tY! Ae)) (Br (b7e (i:=5) c! ck_ (Bv Bc Cz (Bv Bc Cz tZ! Ae) (Bv Kh Ki (Bv Xv Xw dJ_ Ae) Ae))) (Br (Lh (i:=9) Lk.nd rfl b_ (a7x (Bg (b4x T) c_ rfl (Ai E_ (Ai (Bv Bc Cz tW_ Ae) (Ai aD! m0_))) (At (At aB_))))) (Bw (fK (i:=3) c! (Gk (Ai (Av An Au xE_ ck_ s_) (Ai tY! (Ai tZ! (Ai cu_ Aw))))))))))))) (a0l (Bw (Df aD!))))))))
theorem qP(T:g_):Ve P w K mg base 1 "accept" ar_ (Xb t):=
 Ec (h2:=[]) (k:=0) T.M7 a9a (λhr=>(Al (Fm (a7f (qT w_ eE! gq! (uB Az) c1!) v!)) ru!))
theorem Zy(T:g_):Ve P w K mg base 2 "is_next" ar_ (Nb t):=
 Ec (h2:=[]) (k:=1) T.L6 a2g (λhr=>(Am (Cq (Tq as_ iK! gq! (a7d Bc iZ t3_ aJ_) r_))))
theorem bP(T:g_):Ve P w K mg base 3 "accept_waiting" bt! (Il t):=
 Ec (h2:=[]) (k:=2) T.M9 Hn (λhr=>(Al (Cd (i:=1) Hn.nd rfl b_ aJ_) (Al t5_ (Al (Sh BR (Jz (Co c4c c4d (Eh Ff Jj rfl T.R0 Jd dJ!) Ae r_)) (Al Oc (Al (Fm (Bf (qP T) c_ rfl (Aj o! iy_))) (Al (b5k (i:=1) Hn.nd rfl b_ aJ_) (Am t5_))))) dP!))))
theorem tS(T:g_):Ok P w K mg base 6 "are_parts" fX_ (Og t):=
 Je (h2:=[]) (k:=5) T.E1 sS (λhr=>(Br (Om (Co qM qO f9_ mA! r_) eC_ Hx) (Bw (Df (Eh (nS rfl) a4s rfl T.Q5 a4u (Ai (No (NL:=t8_) (NF:=[]) (ix:=[]) rfl c! r! (Dc (sc:=Ah Sz) rfl r!) Gn.nil c! rfl (c7w rfl T.S7 c8j al! E_) (λ_ _ _ _ _=>b4f rfl (bM (Ce (i:=0) ua_ rfl b_) (bM (Ce (i:=1) ua_ rfl b_) a6p))) (c2c 0 1) gb! (λ_ _ _ _ _=>(b7p (j:=0) (n:=1) (c2f T) c_ ge! aB!))) Aw))))))
theorem a3i(T:g_):Ok P w K mg base 7 "is_deed" o_ (Pr t):=
 Je (h2:=[]) (k:=6) T.E2 a2j (λhr=>(Br (Om (nK (rQ rk_ (fJ (Co as_ Dm f9_ Ae r_)))) eC_ Hx) (Br (Om (nK (rQ (Nf (Lg (Ub vF rfl T.Q9 rfl T.R9 Fy a4t aI!))) (fJ (b0x uc_ rfl aI!)))) eC_ Hx) (Br (Om (Nf (Lg (Bg (tS T) c_ rfl (Ai (Hy E_ dH! Jq) (Ai (c2s uc_ rfl aI! s_) Aw)) aB_))) eC_ Hx) (Bw (Df (rR (Li qM qO aI! Bi r_) (Pb (Li Vx Vy (Bv Bc Cz l4_ aI!) lU_ r_)))))))))
theorem iK(T:g_):Ok P w K mg base 8 "is_operation" o_ (Eo t):=
 Je (h2:=[]) (k:=7) T.E3 iD (λhr=>(Br lT! (Bw (Df (Uc rm_ (Uc rl_ (Pb (Bg (a3i T) c_ rfl lU! aB!))))))))
theorem bO(T:g_):Ve P w K mg base 2 "was_taken" ar_ (Lm t):=
 Ec (h2:=[]) (k:=1) T.L5 sP (λhr=>(Am (Cq (Tq Vx (Po.m Vy) gq! t3_ r_))))
theorem eR(T:g_):Ve P w K mg base 3 "not_yet_taken" bG! (Gi t):=
 Ec (h2:=[]) (k:=2) T.L8 Gx (λhr=>(Al (Cd (i:=2) Gx.nd rfl b_ Kt) (Al (Kl BR rfl (Jm (a7d Bc iZ gD! v!)) (Ce (i:=3) Gx.nd rfl b_) c3! (Al (Cd (i:=4) Gx.nd rfl b_ mE_) (Al (Ef (Ky (Bf (bO T) c_ rfl eW!)) (Am (Cd (i:=5) Gx.nd rfl b_ (Do P! Cj (Do P! Cj eE! (Af m7_) s_) (Af (Bv eL eV m7_ Ae)) s_))) (Am (Ef (Hj as_ iK! (Af m7_) (Cn T.U2 T.V3 o!) r_) dU! (Am (Cd (i:=5) Gx.nd rfl b_ (qT w_ M! bz_ aR! c1!)))))) (Am (Ef (Jz (Co bM! Wg aD_ aD! r_)) dU! Db))))) gu_)))
theorem tQ(T:g_):Ve P w K mg base 2 "last_time" f2_ (Of t):=
 Ec (h2:=[]) (k:=1) T.L7 sQ (λhr=>(Al (Ef (Hj as_ iK! (Dh (Tj T) c_ o! aQ_) aJ_ r_) (Am (Cq aJ_)) Db) (Am (Cq (Do P! Cj (Do P! Cj (Do P! Cj eE! v! s_) (Af (b7o Ae)) s_) aJ_ s_)))))
theorem lO(T:g_):Ve P w K mg base 3 "check_times" lD! (Nl t):=
 Ec (h2:=[]) (k:=2) T.L9 Lu (λhr=>(Al (Cd (i:=2) Lu.nd rfl b_ Kt) (Am (Kl BR rfl (Jm (mD (pM rfl) b7v rfl T.R8 rY aQ_)) (Ce (i:=3) Lu.nd rfl b_) c3! (Al (Cd (i:=4) Lu.nd rfl b_ (Do P! Cj (Do P! Cj v! aR! s_) aJ_ s_)) (Al (Ef (Hj Vx (Po.m Vy) bz_ (mB w_ M! gp! (Bf (tQ T) c_ rfl (Aj o! (Aj gp! Az))) c1!) r_) dU! Db) (Am (Gr w_ M! gp! bz_))))))))
theorem eS(T:g_):Ve P w K mg base 9 "check_message" bG! (Ku t):=
 Ec (h2:=[]) (k:=8) T.M6 dZ (λhr=>(Al (Ef (Jz (Nf (Lg (Eh (nS rfl) a4s rfl T.Q5 a4u (Ai (No (NL:=o_) (NF:=[]) (ix:=[]) rfl c! r! (Dc (sc:=Ah Mu) rfl r!) Gn.nil c! rfl i7_ (λ_ _ _ _ _=>Ce (i:=0) (show(o_:List Str).Nodup by decide+kernel) rfl b_) ac_ gb! (λ_ _ _ _ _=>(Bg (iK T) c_ rfl b1_ aB!))) Aw))))) dU! Db) (Am (Fm (Bf (lO T) c_ rfl (Aj o! (Aj (Bf (eR T) c_ rfl dU_) Az)))))))
theorem a3e(T:g_):Ve P w K mg base 4 "receive" ar_ (Sm t):=
 Ec (h2:=[]) (k:=3) T.N0 kO (λhr=>(Al (Ef (Ky (Bf (Zy T) c_ rfl dU_)) (Al (Fm (Bf (qP T) c_ rfl dU_)) (Am (Cq (a7d Bc iZ aJ_ (Bf (bP T) c_ rfl cw_))))) Db) (Al (Cd (i:=2) kO.nd rfl b_ (c4h (Bf (bO T) c_ rfl dU_) (lZ (Tq b5_ Kj v! gD! rfl)))) (Al (Ef (oU (aA (Jz (Nf (Lg aC_))) (Tl (Hj a6x (Po.m a6y) (mD Ff b7w rfl T.R0 Jd (Aj gD! Az)) (Af (Oo T.T2 rfl)) r_)))) (Am (Fm (a7f gD! v!))) Db) (Am (Cq aJ_))))))
theorem c1d(T:g_):Ve P w K mg base 10 "take" bG! (nF t):=
 Ec (h2:=[]) (k:=9) T.N3 iU (λhr=>(Al (Fm (Bf (eS T) c_ rfl dU_)) (Al (Cd (i:=2) iU.nd rfl b_ aJ_) (Al (Kl BR rfl (eX i7_) (Ce (i:=3) iU.nd rfl b_) c3! (Am (b5k (i:=2) iU.nd rfl b_ (Bf (a3e T) c_ rfl eW!)))) gu_))))
end
noncomputable def c3q(K:W.Frag):Sp:=λvs H Q E=>∀(P:Program) (w:World) (t:Bo),t.nd->spM P w K 1 (c4k t) vs H Q E
section
variable{P:Program}{w:World}{K:W.Frag}{mg:Str->Option Value}{h:Heap}
theorem c8p(gc:mg "law"=some e1_)(dl:c8x K mg "law" Zm [bG_])(T:Txt P w K mg ja_)(nd:Bo.nd ja_):
  ∃fd:FuncData,(∀(s:Shared) (u:Value),BindsTo s fd jj! [("_law_script",u)])/\∀base:Heap,K.In base->base.Ns mainGlobals mg->Ks P w K mg base iR 13 fa fd [bG_] (c3q K):=by
 obtain⟨fd,B,Y⟩:=c1m (h2:=[]) (k:=12) (P:=P) (w:=w) (q:=b3i ja_) dl Zp gc (λbase σ af A outer s H E hr=>(Al (Cd (i:=1) Zp.nd rfl b_ (Af (Bg (a9z T) c_ rfl (Ai E_ (Ai Ae (Ai uv! Aw))) (At aB_))))
   (Al (Cd (i:=2) Zp.nd rfl b_ (c1i (a3k T) c_ rfl ms!))
   (Al (Cd (i:=3) Zp.nd rfl b_ v!)
   (Al (Ef (Jz (Co as_ Dm uv! Ae r_)) (Al (Cd (i:=3) Zp.nd rfl b_ (Af (Bv Bc Cz (No (NL:=bK!) (NF:=[]) (ix:=[]) rfl c! r! jb! Gn.nil c! rfl i7_ eF_ ac_ uw_ jb_) (No (NL:=bK!) (NF:=[]) (ix:=[]) rfl c! r! jb! Gn.nil c! rfl i7_ eF_ ac_ ux! jb_))))
   (Am (Cd (i:=3) Zp.nd rfl b_ (Af (Bv Bc Cz (No (NL:=bK!) (NF:=[]) (ix:=[]) rfl c! r! jb! Gn.nil c! rfl (Jr aD!) eF_ ac_ uw_ jb_) (No (NL:=bK!) (NF:=[]) (ix:=[]) rfl c! r! jb! Gn.nil c! rfl (Jr aD!) eF_ ac_ ux! jb_)))))) Db)
   (Al (Cd (i:=4) Zp.nd rfl b_ (Af (b1a dB c3a rfl T.R4 wB in!)))
   (Al (Ef (oU (b5h (Hj bM! lN (Bf (c1d T) c_ rfl (Aj M! (Aj bz_ Az))) (Af mA!) r_) (a3p (Jz (Co bM! Wg bf_ aD! r_))))) dM! Db)
   (Am (Cq (Bf (b0b T) c_ rfl mm_))))))))))
 exact⟨fd,B,λbase i g=>(Y base i g).imp λvs H Q E z=>z P w _ nd⟩
theorem b0u{ad:Addr}{k3:Tok}{o0 o1 o2 o3 o4 o5 o6 o7:a5!}{n0 n1 n2 n3 n4 n5 n6 n7 ep:Nat}{s0 s1 s2 s3 s4 s5 s6 s7:b8!}(X:fo_)(G:fp!)
  (ga:W.nsIn K mainGlobals "PARTS"=some (some j2_))(gl:K.lookup ad=some {cls:=.type "dict",data:=.dict #[⟨PyData.keyHash w.params "put",.str "put" k0,.ref r0⟩,⟨PyData.keyHash w.params "move",.str "move" k1,.ref r1⟩,⟨PyData.keyHash w.params "drop",.str "drop" k2,.ref r2⟩,⟨PyData.keyHash w.params "write",.str "write" k3,.ref r3⟩,⟨PyData.keyHash w.params "cut",.str "cut" k4,.ref r4⟩,⟨PyData.keyHash w.params "set",.str "set" k5,.ref r5⟩,⟨PyData.keyHash w.params "undo",.str "undo" k6,.ref r6⟩,⟨PyData.keyHash w.params "redo",.str "redo" k7,.ref r7⟩] ep})(gs:on_=false)
  (l0:K.lookup r0=some ⟨cH!,o0,.seq #[.ref B6,.ref B7] n0,s0⟩)
  (l1:K.lookup r1=some ⟨cH!,o1,.seq #[.ref B6,.ref B6,.ref B7] n1,s1⟩)
  (l2:K.lookup r2=some ⟨cH!,o2,.seq #[.ref B6] n2,s2⟩)
  (l3:K.lookup r3=some ⟨cH!,o3,.seq #[.ref B6,.ref B8,.ref B9] n3,s3⟩)
  (l4:K.lookup r4=some ⟨cH!,o4,.seq #[.ref B6,.ref C0,.ref C1] n4,s4⟩)
  (l5:K.lookup r5=some ⟨cH!,o5,.seq #[.ref B6,.ref C2,.ref C3] n5,s5⟩)
  (l6:K.lookup r6=some ⟨cH!,o6,.seq #[.ref C4] n6,s6⟩)
  (l7:K.lookup r7=some ⟨cH!,o7,.seq #[.ref C4] n7,s7⟩)
  :∀X:Cx,X.prog=P->X.w=w->X.K=K->X.mg=mg->a1k X "PARTS" (Pp ja_):=λvb e1 e2 e3 e4=>
 b6u (rows:=[("put",k0,r0),("move",k1,r1),("drop",k2,r2),("write",k3,r3),("cut",k4,r4),("set",k5,r5),("undo",k6,r6),("redo",k7,r7)]) (w:=w) e2 e3 e4 (Ka X G ga) gs gl (show(["put","move","drop","write","cut","set","undo","redo"]:List Str).Nodup by decide+kernel) ⟨rfl,Ny (fs:=[B6,B7]) l0 (by show 2<=1000;decide),rfl,Ny (fs:=[B6,B6,B7]) l1 jf_,rfl,Ny (fs:=[B6]) l2 ne!,rfl,Ny (fs:=[B6,B8,B9]) l3 jf_,rfl,Ny (fs:=[B6,C0,C1]) l4 jf_,rfl,Ny (fs:=[B6,C2,C3]) l5 jf_,rfl,Ny (fs:=[C4]) l6 ne!,rfl,Ny (fs:=[C4]) l7 ne!,trivial⟩
end
end K10
open PySem PySem.W PyProof.Rows
set_option maxRecDepth 100000 in
set_option maxHeartbeats 0 in
theorem PySem.Challenge.cw_manyhands_k10_whole_played_holds : PySem.Challenge.rw_manyhands_k10_whole_played.Holds := by
 w_on;o_law;k_head;(case hw=>w_witness2)
 k_fill
 refine L2.b1s (l:=PySem.Challenge.rw_manyhands_k10_whole_played) (n:=63) (k:=13) (x:="_law_script") (CX:=L2.iR) (sp:=K10.c3q) rfl (by decide) rfl ⟨rfl,by decide,by decide⟩ (λw h Y=>W.kIn_of Y) ?F (λK H a ns hl _ hS P w t nd=>DL.c1l hS (K10.b5w nd)) (λ_ _ _ _ z=>z)
 case F=>
  intro w mg fa h KX G hmg;refine' K10.c8p hmg ?dl ⟨?C8,?C9,?D1,?D2,?D3,?D4,?D5,?D6,?D7,?D8,?D9,?E1,?E2,?E3,?E4,?E5,?E6,?E7,?E8,?E9,?F7,?F8,?F9,?G6,?G7,?G8,?G9,?H9,?J0,?J1,?J2,?J3,?J4,?J5,?J6,?J7,?J8,?J9,?K0,?K4,?K6,?K7,?K8,?K9,?L0,?L5,?L6,?L7,?L8,?L9,?M6,?M7,?M9,?N0,?N3,?N4,?N5,?N6,?N7,?N8,?N9,?O0,?O1,?O2,?O3,?O4,?O5,?O6,?O7,?O8,?O9,?P0,?P1,?P3,?P4,?P5,?P6,?P7,?P8,?P9,?Q0,?Q3,?Q4,?Q5,?Q6,?Q7,?Q8,?Q9,?R0,?R4,?R6,?R7,?R8,?R9,?S0,?S7,?S8,?S9,?T0,?T1,?T2,?T3,?T4,?T5,?T6,?T7,?T8,?T9,?U0,?U1,?U2,?U3,?U4,?U5,?U6,?U7,?U8,?U9,?V0,?V1,?V2,?V3,?V4,?V5,?V6,?gp⟩ ?nd
  (case E6=>show"!!")
  (case F8=>show"!!")
  (case K7=>(dsimp only;refine' DL.b5m (DL.Ka KX G ?g) ?a ?i ?l ?c ?k ?mm ?kc ?b;(case g=>k_is);(case a=>k_is);(case i=>k_is);(case l=>k_is);(case c=>k_is);(case k=>k_is);(case mm=>k_is);(case kc=>k_is);(case b=>exact λ_ _ _ _ _ _=>DL.Vd λ_ _=>rfl)))
  (case C8=>show"!#")
  (case C9=>show"!$")
  (case D1=>show"!#")
  (case D2=>show"!#")
  (case D3=>show"!#")
  (case D4=>show"!#")
  (case D5=>show"!#")
  (case D6=>show"!#")
  (case D7=>show"!#")
  (case D8=>show"!#")
  (case D9=>show"!#")
  (case E1=>show"!$")
  (case E2=>show"!#")
  (case E3=>show"!#")
  (case E4=>show"!#")
  (case E5=>show"!#")
  (case E7=>show"!%")
  (case E8=>show"!&")
  (case E9=>show"!%")
  (case F7=>(dsimp only;refine' DL.Gs ?a ?i ?l ?c ?k ?b;(case a=>k_is);(case i=>k_is);(case l=>k_is);(case c=>k_is);(case k=>k_is);(case b=>exact λ_ _ _ _ _ _=>DL.Zk λ_=>rfl)))
  (case F9=>show"!%")
  (case G6=>show"!%")
  (case G7=>show"!&")
  (case G8=>show"!'")
  (case G9=>show"!&")
  (case H9=>show"!'")
  (case J0=>(dsimp only;refine' DL.Gs ?a ?i ?l ?c ?k ?b;(case a=>k_is);(case i=>k_is);(case l=>k_is);(case c=>k_is);(case k=>k_is);(case b=>exact λ_ _ _ _ _ _=>DL.us5 λ_ _ _ _ _=>rfl)))
  (case J1=>show"!'")
  (case J2=>show"!'")
  (case J3=>show"!%")
  (case J4=>show"!%")
  (case J5=>show"!%")
  (case J6=>show"!%")
  (case J7=>show"!%")
  (case J8=>show"!#")
  (case J9=>show"!#")
  (case K0=>show"!#")
  (case K4=>show"!(")
  (case K6=>show"!#")
  (case K8=>show"!%")
  (case K9=>show"!#")
  (case L0=>show"!#")
  (case L5=>show"!$")
  (case L6=>show"!$")
  (case L7=>show"!$")
  (case L8=>show"!$")
  (case L9=>show"!$")
  (case M6=>show"!$")
  (case M7=>show"!$")
  (case M9=>show"!#")
  (case N0=>show"!$")
  (case N3=>show"!$")
  (case N4=>show"!$")
  (case N5=>show"!$")
  (case N6=>show"!(")
  (case N7=>show"!$")
  (case N8=>show"!$")
  (case N9=>show"!$")
  (case O0=>show"!$")
  (case O1=>show"!(")
  (case O2=>show"!$")
  (case O3=>show"!$")
  (case O4=>show"!#")
  (case O5=>show"!#")
  (case O6=>show"!$")
  (case O7=>show"!$")
  (case O8=>show"!)")
  (case O9=>show"!(")
  (case P0=>show"!#")
  (case P1=>show"!#")
  (case P3=>show"!)")
  (case P4=>show"!(")
  (case P5=>show"!)")
  (case P6=>show"!$")
  (case P7=>show"!#")
  (case P8=>show"!$")
  (case P9=>show"!$")
  (case Q0=>show"!$")
  (case Q3=>show"!#")
  (case dl=>(refine' DL.c2m KX G ?a ?l ?c ?k ?b;(case a=>k_is);(case l=>k_is);(case c=>k_is);(case k=>k_is);(case b=>exact λ_ _ _ _ _ _=>DL.Zk λ_=>rfl)))
  (case Q4=>show"!*")
  (case Q5=>show"!*")
  (case Q6=>show"!*")
  (case Q7=>show"!*")
  (case Q8=>show"!*")
  (case Q9=>show"!*")
  (case R0=>show"!*")
  (case R4=>show"!*")
  (case R6=>show"!*")
  (case R7=>show"!*")
  (case R8=>show"!*")
  (case R9=>show"!*")
  (case S0=>show"!*")
  (case S7=>show"!*")
  (case S8=>show"!+")
  (case S9=>show"!+")
  (case T0=>show"!+")
  (case T1=>show"!+")
  (case T2=>show"!+")
  (case T3=>show"!,")
  (case T4=>show"!,")
  (case T5=>show"!,")
  (case T6=>show"!,")
  (case T7=>show"!,")
  (case T8=>show"!,")
  (case T9=>show"!,")
  (case U0=>show"!,")
  (case U1=>show"!,")
  (case U2=>show"!-")
  (case U3=>show"!-")
  (case U4=>show"!-")
  (case U5=>show"!.")
  (case U6=>show"!.")
  (case U7=>show"!.")
  (case U8=>show"!.")
  (case U9=>show"!.")
  (case V0=>show"!.")
  (case V1=>show"!.")
  (case V2=>show"!.")
  (case V3=>show"!.")
  (case V4=>show"!.")
  (case V5=>show"!.")
  (case V6=>show"!.")
  (case gp=>(refine' K10.b0u KX G ?ga ?gl ?gs ?l0 ?l1 ?l2 ?l3 ?l4 ?l5 ?l6 ?l7;(case ga=>k_is);(case gl=>k_is);(case gs=>decide);(case l0=>k_is);(case l1=>k_is);(case l2=>k_is);(case l3=>k_is);(case l4=>k_is);(case l5=>k_is);(case l6=>k_is);(case l7=>k_is)))
  (case nd=>(unfold K10.Bo.nd;decide))
