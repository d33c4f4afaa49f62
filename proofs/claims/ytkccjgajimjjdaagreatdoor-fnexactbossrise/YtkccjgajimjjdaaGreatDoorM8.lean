import Derived.Test.YtkccjgajimjjdaaGreatDooreQE
set_option linter.unusedVariables false
set_option maxHeartbeats 8000000
set_option maxRecDepth 100000
namespace Go.Proofs.YtkccjgajimjjdaaGreatDoor
open Proofs.Tryz Go.RowKit Go.Maps
variable{E w':World}{W c:Int}{t:BY}{ls:List L4}{B H bP bR bT base n:Nat}{m:M3}{ts:LB}{rs:List R3}
theorem But.a2l{b:Nat}{w:World}(h:w.grownBy w' (some b)):But b w w':=⟨h.os,h.tape,h.output,h.size,λk c a=>h.block k c (λe=>a (I_ e))⟩
theorem a1q(w:World)(x y:Value)(t:TypeId):∀j u,[x,y][j]?=some u->(w.alloc (.cells #[x,y] t)).cell? ((⟨w.heap.size,0,none⟩:Addr).add j)=some u:=by
 intro j u h;rw[Bl,o9];exact a_ w [x,y] t j u h
theorem SY(c:Int)(s a:BY)(w:World)(hf:ZB c s=a)(b:s.size<=1048700):Calls prog 274 #[.agg #[.int .i64 c,.string s]] w λe w'=>e=.returned (.string a)/\Bw w w':=by
 subst hf;exact NP c s w b
theorem a2R(s:BY)(n:Int)(a:BY)(w:World)(hm:G7 s n=a)(b:s.size<=1048700):Calls prog 184 #[.string s,.int .i64 n] w λe w'=>e=.returned (.string a)/\Bw w w':=by
 subst hm;exact zJ s n w b
theorem xX(h:vr c t.data.toList=true):t.size<=300:=by
 rcases D8 300 t.data.toList.length with h1|h1
 ·rw[IE h1]at h;cases h
 simpa using h1
theorem Qq(c:Int)(t:BY):(ZB c t).size<=t.size+2:=by
 have e:t.data.toList.length=t.size:=Zw;unfold ZB;rw[P5];unfold g_;split
 ·simp only[u_];omega
 simp only[Td];omega
theorem a0A(h:yg ls):∀r∈F_ ls,vr r.1 r.2.data.toList=true:=by
 have h2:∀x∈ls,ji x:=λx hx=>by
  obtain⟨i,b,e⟩:=Ze hx;have:=h.2 i b
  rwa[show ls.getD i M_=x by simp[List.getD,L9 b,e]]at this
 clear h
 induction ls with
 | nil=>intro r hr;cases hr
 | cons x q ih=>
  intro r hr;have a:=ih (λy c=>h2 y (Og _ c));unfold F_ at hr
  cases hx:x.has with
  | true=>rw[hx]at hr;exact a r hr
  | false=>
   rw[hx]at hr;rcases Xe.1 hr with rfl|hr
   ·rcases(h2 x (Vr ..)).2 with⟨k,_⟩|⟨_,k⟩
    ·rw[hx]at k;cases k
    exact k
   exact a r hr
theorem SV{k:Nat}(h:k<(F_ ls).length+1):(Pm ls c t).take (k+1)=(Pm ls c t).take k++[ZB ((F_ ls++[(c,t)]).getD k (0,ByteArray.empty)).1 ((F_ ls++[(c,t)]).getD k (0,ByteArray.empty)).2]:=by
 have b:k<(Pm ls c t).length:=by simp[Pm];omega
 rw[Yr,L9 b];have a:k<(F_ ls++[(c,t)]).length:=Q8;simp only[Pm,DF,Option.toList_some];rw[show(F_ ls++[(c,t)]).getD k (0,ByteArray.empty)=(F_ ls++[(c,t)])[k] by simp only[List.getD,L9 a,jh]]
theorem dP{c:OA}{j:Nat}{l:List (Int×ByteArray)}(h:E.ownsRow base 72 2 (.slice c n j) l.length (iC l))(e:l≠[]):∃g,c=some ⟨g,0,none⟩/\(g<E.heap.size/\base<=g)/\∀k,k<l.length->E.cell? ⟨g,k*2,none⟩=some (.int .i64 (l.getD k (0,ByteArray.empty)).1)/\E.cell? ⟨g,k*2+1,none⟩=some (.string (l.getD k (0,ByteArray.empty)).2):=by
 have b:=h;have d:∀(l:List (Int×ByteArray))(k:Nat),k<l.length->(iC l)[k*2]?=some (.int .i64 (l.getD k (0,ByteArray.empty)).1)/\(iC l)[k*2+1]?=some (.string (l.getD k (0,ByteArray.empty)).2):=by
  intro l
  induction l with
  | nil=>intro k a;exact absurd a (y9 _)
  | cons x r ih=>
   intro k a
   cases k with
   | zero=>exact⟨rfl,rfl⟩
   | succ k=>
    have:=ih k (by simpa using a);have e1:(k+1)*2=k*2+1+1:=O0;rw[e1];exact this
 rcases h.2 with⟨hv,h0⟩|⟨g,cap,cur,hv,i,f,_⟩
 ·exact absurd (Qb.1 h0) e
 simp only[Xt]at hv;obtain⟨rfl,rfl,rfl⟩:=hv;refine⟨g,rfl,⟨(Eb.1 f).1,i⟩,λk a=>?_⟩;rw[b.cellAt (k*2) O0,b.cellAt (k*2+1) O0];exact d l k a
def a4H(W:Int)(ts:LB)(fs:LB)(w w':World)(e:Ending):Prop:=
 (∃bF f ts',e=.returned (.tuple #[.map (some bF),.bool true])/\w.heap.size<=bF/\w'.ownsMap prog 9 Ub bF f.length (mapD f)/\Fr W (ts.map (gT W)) f ts'/\P8 W fs (ts,true)=(ts',true))\/
 (e=.returned (.tuple #[.map none,.bool false])/\(P8 W fs (ts,true)).2=false)
theorem cl3{u:World}{t:TypeId}{a b c:Value}(h:Cl u B t [a,b,c]):u.cell? ⟨B,0,none⟩=some a/\u.cell? ⟨B,1,none⟩=some b/\u.cell? ⟨B,2,none⟩=some c:=⟨h.cell 0,h.cell 1,h.cell 2⟩
theorem c232(B H bT bR bP:Nat)(W:Int)(ts:LB)(rs:List R3)(rv:List Value)(ls:List L4)(c:Int)(t:BY)(a:OA)(cap:Nat)(w:World)(hSh:Sh B H bT bR bP W (ts.map (gT W)) rs rv w)(hW:1<=W/\W<=8)(hA:Hl W ts)(hok:yg ls)(hv:vr c t.data.toList=true)(hl:ls.length<=1048576)(hat:S9 w a ls):
 Calls prog 232 #[.pointer (some ⟨H,0,none⟩),.slice a ls.length cap,.agg #[.int .i64 c,.string t]] w λe w'=>a4H W ts (Pm ls c t) w w' e/\Bw w w':=by
 obtain⟨i0,hi,hz0,hz1,hz2⟩:=info_parts' ZT;obtain⟨pl,hCC,hR⟩:=hSh;obtain⟨es,ck,hTw,hTF,hTs,hTD⟩:=hCC.tx;have hbT:=(Eb.1 hTw).1;have HLT:Hid (∀(u:World)(k:BY),k.size<=maxLen->u.heap[bT]?=some (.map es ck)->(Instr.lookup 232 (.map (some bT)) (.string k) true).run prog u=.ok (.tuple #[(Ya (ts.map (gT W)) k).getD (.agg #[.string ⟨#[]⟩,.int .i64 0,.string ⟨#[]⟩]),.bool (Ya (ts.map (gT W)) k).isSome]) u):=λu k Z hu=>
  rD (n:=(ts.map (gT W)).length) ⟨es,ck,hu,hTF,hTs,hTD⟩ underlying232 Y1 Z
 have HVR:Hid (∀k,k<(F_ ls++[(c,t)]).length->vr ((F_ ls++[(c,t)]).getD k (0,ByteArray.empty)).1 ((F_ ls++[(c,t)]).getD k (0,ByteArray.empty)).2.data.toList=true):=λk Z=>by
  have e:(F_ ls++[(c,t)]).getD k (0,ByteArray.empty)=(F_ ls++[(c,t)])[k]:=by simp only[List.getD,L9 Z,jh]
  rw[e];rcases Dh.1 (Zj Z)with h|h
  ·exact a0A hok _ h
  rw[Dk.1 h];exact hv
 have HAS:=U0 hA;have HWD:=U0 hW;have a6x:=hCC.lt;have hll:=hok.1;have hml:=KA ls;have hmm:=@run_makeMap prog;have HM1:Hid ((F_ ls).length+1<=maxLen):=by show _<=_;unfold maxLen;omega
 have HM2:Hid (((F_ ls).length+1)*24<=140737488355328):=by show _<=_;omega
 have s0:(w.alloc (.cells #[.int .i64 c,.string t] 72)).heap.size=w.heap.size+1:=E5;have s1:((w.alloc (.cells #[.int .i64 c,.string t] 72)).alloc (.map #[] 0)).heap.size=w.heap.size+2:=E5;have BU:Bw w ((w.alloc (.cells #[.int .i64 c,.string t] 72)).alloc (.map #[] 0)):=Y6.alloc E5 _;have HLK:=U0 (U7 hat BU);have M0:=World.ownsMap_made (w.alloc (.cells #[.int .i64 c,.string t] 72)) prog 9 Ub;rw[s0]at M0;have MU:Hid (((w.alloc (.cells #[.int .i64 c,.string t] 72)).alloc (.map #[] 0)).ownsMap prog 9 Ub (w.heap.size+1) ([]:List (ByteArray×Value)).length (mapD [])):=M0;have e0:((w.alloc (.cells #[.int .i64 c,.string t] 72)).alloc (.map #[] 0)).cell? ⟨w.heap.size,0,none⟩=some (.int .i64 c):=by simp[go_sem]
 have e1:((w.alloc (.cells #[.int .i64 c,.string t] 72)).alloc (.map #[] 0)).cell? ⟨w.heap.size,1,none⟩=some (.string t):=by simp[go_sem]
 clear hat M0 hA hW hok hv hTF hTs hTD
 go_in
 go_wp2_with fail
 rename_i K0 hK0;generalize ((w.alloc (.cells #[.int .i64 c,.string t] 72)).alloc (.map #[] 0))=x at*;have TAIL:∀(va:Value)(q:Nat)(N:OA)(L:Nat)(E:World),Bw x E->Hid (E.ownsRow x.heap.size 72 2 (.slice N ((F_ ls).length+1) L) ((F_ ls).length+1) (iC (F_ ls)++[.int .i64 c,.string t]))->K0 { tmps:=#[.pointer (some ⟨H,0,none⟩),.slice a ls.length cap,.agg #[.int .i64 c,.string t],undef,undef,.pointer (some ⟨w.heap.size,0,none⟩),.map none,.bool false,.map (some (w.heap.size+1)),undef,undef,undef,undef,undef,undef,.map (some (w.heap.size+1)),.slice a ls.length cap,va,.agg #[.int .i64 c,.string t],.slice (some ⟨q,0,none⟩) 1 1,.slice N ((F_ ls).length+1) L,.int .i64 ((F_ ls).length+1:Nat),.int .i64 0,undef,undef,undef,undef,undef,undef,undef,undef,undef,undef,undef,undef,undef,undef,undef,undef,undef,undef,undef,undef,undef,undef,undef,undef,undef,undef,undef,undef,undef,undef,undef,undef,undef,undef,undef,undef,undef,undef,undef,undef,undef,undef,undef,undef],defers:=[] } E:=by
  intro va q N L E hE I;have hEs:=hE.size;obtain⟨g,rfl,hgE,hgc⟩:=dP (l:=(F_ ls++[(c,t)])) (by rw[dD];simpa using I.out) E5;have HGC:=U0 hgc;have BWE:=BU.trans (hE.mono O0);have CE:=hCC.below BWE;have hE0:=CE.blk 0 _ rfl;have hE1:=CE.blk 1 _ rfl;have hTE:=(BWE.block bT hbT).trans hTw;have ME:=U0 (Xd MU.out hE O0);have hHZ:=a6x;have hgN:g≠w.heap.size+1:=O0;clear hgc I CE;refine hK0 _ _ ?_;clear hK0;go_wp2;go_loopw[22] (λi wr=>∃(k:Nat)(f:List (ByteArray×Value))(tk:List ByteArray),k<=(F_ ls).length+1/\i=.int .i64 k/\Hid (wr.ownsMap prog 9 Ub (w.heap.size+1) f.length (mapD f))/\Hid (Fr W (ts.map (gT W)) f tk)/\Hid (P8 W ((Pm ls c t).take k) (ts,true)=(tk,true))/\f.length<=k/\But (w.heap.size+1) E wr) (λi _=>(F_ ls).length+1-(Go.RowKit.intOf i).toNat);exact⟨0,[],ts,J4 _,rfl,ME,Fr.start HAS.out,rfl,J8 _,But.refl _ _⟩;obtain⟨k,f,tk,Z,rfl,HMr,HFr,HPu,hfk,BTr⟩:=hrel;have szr:=BTr.size;by_cases hlt:k<(F_ ls).length+1
  ·have gk:=HGC.out k (by simpa using hlt);have g0:=(BTr.cell (p:=⟨g,k*2,none⟩) hgE.1 hgN).trans gk.1;have g1:=(BTr.cell (p:=⟨g,k*2+1,none⟩) hgE.1 hgN).trans gk.2;have HTK:=U0 (SV (c:=c) (t:=t) hlt);have hvr:=HVR.out k (by simpa using hlt);generalize ((F_ ls++[(c,t)])).getD k (0,ByteArray.empty)=r at*;clear gk;obtain⟨m,hfm⟩:∃m,ZB r.1 r.2=m:=⟨_,rfl⟩;have HFM:=U0 hfm;have HVF:=U0 (hfm▸a3d hvr);have hr3:=xX hvr;have hr7:r.2.size<=1048700:=O0;have a7q:m.size<=1048700:=by rw[<- hfm];have:=Qq r.1 r.2;omega
   rw[hfm]at HTK;obtain⟨A,hsm⟩:∃A,G7 m W=A:=⟨_,rfl⟩;have HSM:=U0 hsm;have HSZ:Hid (A.size<=maxLen):=by show _<=_;rw[<- hsm,mr HWD.out];have:=HWD.out;unfold maxLen;omega
   clear hfm hsm;have BX0:Bw wr (wr.alloc (.cells #[.int .i64 r.1,.string r.2] 72)):=Y6;have C0:=U0 (X4 wr [.int .i64 r.1,.string r.2] 72);have hx:wr.heap.size<(wr.alloc (.cells #[.int .i64 r.1,.string r.2] 72)).heap.size:=E5
   go_wp2_with fail
   generalize wr.alloc (.cells #[.int .i64 r.1,.string r.2] 72)=x0 at*;clear g0 g1;have J:Hid (∀u,Bw x0 u->u.cell? ⟨wr.heap.size,0,none⟩=some (.int .i64 r.1)/\u.cell? ⟨wr.heap.size,1,none⟩=some (.string r.2)):=λu hu=>⟨(hu.cell hx).trans (C0.out.cell 0),(hu.cell hx).trans (C0.out.cell 1)⟩
   go_cut[11] from 23 to 29 (λs wx=>∃B,s=.pointer (some ⟨B,0,none⟩)/\x0.heap.size<=B/\Hid (Cl wx B 240 [.string m,.int .i64 r.1,.string r.2])/\Hid (Bw x0 wx))
   case first=>
    have d:Bw x0 x0.drew:=(G5 _ _).drew;refine FI J d Y1 λhH=>?_;generalize x0.drew=y at*;refine p_ 0 ?_;refine p_ 2 ?_;refine wpAnyH_ready (rs:=[1,4]) Y1 E5 ?_;refine AllReadyH.cons (o:=⟨some 27,.call ⟨.value (.func 274),#[.tmp 26],#[72]⟩,9,_,_,none⟩) rfl (λK b=>?_) (AllReadyH.cons (o:=⟨some 11,.alloc 240,0,_,_,none⟩) rfl (λK b=>?_) AllReadyH.nil)
    ·go_simp;refine(SY r.1 r.2 m _ HFM.out hr7).mono ?_;rintro e u0⟨rfl,U⟩
     replace d:=J5 d U
     clear U;go_simp;refine A8 b (J.out _ d) λhH=>?_;clear b K;refine sq ?_;refine rq 4 λK b=>?_;go_simp;have X:=U0 (X4 u0 [.string ⟨#[]⟩,.int .i64 0,.string ⟨#[]⟩] 240);have hA:=d.size
     replace d:=J5 d (Y6 (w:=u0) (o:=.cells #[.string ⟨#[]⟩,.int .i64 0,.string ⟨#[]⟩] 240))
     refine A8 b (J.out _ d) λhH=>?_;clear b K;generalize u0.alloc (.cells #[.string ⟨#[]⟩,.int .i64 0,.string ⟨#[]⟩] 240)=ya at*;refine rq 5 λK b=>?_;refine t_ rfl 240 _ _ rfl (j:=0) rfl rfl X.out X7 (Y5 rfl) Y1 ?_;intro z cz oz
     replace d:=d.trans (oz.below hA)
     have CZ:=U0 cz;refine A8 b (J.out _ d) λhH=>?_;clear b K;refine wdn ?_
     go_wp2_with fail
     go_meet
     exact⟨_,rfl,hA,CZ,d⟩
    go_simp;have X:=U0 (X4 y [.string ⟨#[]⟩,.int .i64 0,.string ⟨#[]⟩] 240);have hA:=d.size
    replace d:=J5 d (Y6 (w:=y) (o:=.cells #[.string ⟨#[]⟩,.int .i64 0,.string ⟨#[]⟩] 240))
    refine A8 b (J.out _ d) λhH=>?_;clear b K;generalize y.alloc (.cells #[.string ⟨#[]⟩,.int .i64 0,.string ⟨#[]⟩] 240)=ya at*;refine rq 1 λK b=>?_;go_simp;refine(SY r.1 r.2 m _ HFM.out hr7).mono ?_;rintro e u0⟨rfl,U⟩
    replace d:=J5 d U
    replace X:=U0 (X.out.below U X.out.lt)
    clear U;go_simp;refine A8 b (J.out _ d) λhH=>?_;clear b K;refine sq ?_;refine rq 5 λK b=>?_;refine t_ rfl 240 _ _ rfl (j:=0) rfl rfl X.out X7 (Y5 rfl) Y1 ?_;intro z cz oz
    replace d:=d.trans (oz.below hA)
    have CZ:=U0 cz;refine A8 b (J.out _ d) λhH=>?_;clear b K;refine wdn ?_
    go_wp2_with fail
    go_meet
    exact⟨_,rfl,hA,CZ,d⟩
   obtain⟨B,rfl,hB,CB,BX⟩:=hcut;clear J;have BT3:=BTr.trans (But.of_below (BX0.trans (BX.out.mono (Vt hx))));have M3:=U0 (Xd HMr.out (BX0.trans (BX.out.mono (Vt hx))) O0);have h0:=(BT3.cell (p:=⟨H,0,none⟩) (show H<E.heap.size by omega) (show H≠w.heap.size+1 by omega)).trans hE0;have a0:=CB.out.cell 0;have hBz:=BX.out.size;clear BX C0
   go_wp2_with fail
   refine wp_region_held_drew (S:=(λu=>u.cell? ⟨B,0,none⟩=some (.string m)/\u.cell? ⟨H,0,none⟩=some (.int .i64 W))) Y1 ⟨a0,h0⟩ λhHeld=>?_
   iterate 6 refine sq ?_
   refine rq 6 λK b=>?_;go_simp;refine(a2R m W A _ HSM.out a7q).mono ?_;rintro e C⟨rfl,hb4⟩
   go_wp2_with fail
   have b4:Bw wc C:=((G5 _ _).drew).trans hb4;have s4:=b4.size;have hB4:=CB.out.lt;have V:=U0 (CB.out.below b4 hB4);have O:=BT3.trans (But.of_below b4);have M4:=U0 (Xd M3.out b4 O0);obtain⟨a1,a2,a3⟩:=cl3 V.out;have h1:=(O.cell (p:=⟨H,0,none⟩) (show H<E.heap.size by omega) (show H≠w.heap.size+1 by omega)).trans hE0;have h2:=(O.cell (p:=⟨H,1,none⟩) (show H<E.heap.size by omega) (show H≠w.heap.size+1 by omega)).trans hE1;have hT4:=(O.block bT O0 O0).trans hTE;clear hHeld hb4;refine A8 b ⟨a1,h1⟩ λhHeld=>?_;clear b K;refine sq ?_;refine wdn ?_;clear hHeld M3 BT3 a0 h0;have a6N:=BWE.trans (O.below O0 O0);have szZ:w.heap.size<=C.heap.size:=O0;have MET:∀v,(Ya (ts.map (gT W)) A=some v\/Ya f A=some v)->∃y,v=hV y/\((y=m/\Hid (P8 W ((Pm ls c t).take (k+1)) (ts,true)=(tk,true)))\/(¬y.toList=m.toList/\Hid ((P8 W (Pm ls c t) (ts,true)).2=false))):=λv hv=>by
    obtain⟨y,hvy,hput⟩:=HFr.out.met (W:=W) (t:=m) (by rw[HSM.out];exact hv);have h:P8 W ((Pm ls c t).take (k+1)) (ts,true)=(tk,decide (y=m)):=by
     rw[HTK.out,Yn,HPu.out];show((qc W m tk).1,true&&(qc W m tk).2)=_;rw[hput];rfl
    refine⟨y,hvy,?_⟩;by_cases hy:y=m
    ·rw[X_ hy]at h;exact .inl ⟨hy,h⟩
    rw[o_ hy]at h;refine .inr ⟨λe=>hy ((Vo y m).1 e),?_⟩;show(P8 _ _ _).2=false;rw[<- um (k+1) (Pm ls c t),Yn,h];exact rO _ _ _
   have Q:=HLT.out C A HSZ.out hT4
   cases hqm:Ya (ts.map (gT W)) A with
   | some v=>
    rw[hqm]at Q;simp only[jh,Option.isSome_some]at Q;obtain⟨y,rfl,⟨rfl,HP⟩|⟨hne,HN⟩⟩:=MET v (.inl hqm)
    ·rw[HVF.out]at Q;have d:Bw C (C.alloc (.cells #[.string y,.int .i64 r.1,.string r.2] 240)):=Y6;obtain⟨n0,n1,n2⟩:=cl3 (V.out.below d O0);go_wp2;go_roundw;exact⟨k+1,f,tk,O0,by go_num,U0 (Xd M4.out d O0),HFr,HP,O0,O.trans (But.of_below d)⟩;exact Z9
    unfold hV at Q;have d:Bw C (C.alloc (.cells #[.string y,.int .i64 (hC y),.string (hT y)] 240)):=Y6;obtain⟨n0,n1,n2⟩:=cl3 (V.out.below d O0);go_wp2;go_ret2;exact⟨.inr ⟨rfl,HN.out⟩,a6N.trans (d.mono O0)⟩
   | none=>
    rw[hqm]at Q;simp only[Option.getD_none,Option.isSome_none]at Q;have b5:Bw C (C.alloc (.cells #[.string ⟨#[]⟩,.int .i64 0,.string ⟨#[]⟩] 240)):=Y6;obtain⟨m0,m1,m2⟩:=cl3 (V.out.below b5 O0);have M5:=U0 (Xd M4.out b5 O0);have R:=rD (k:=A) (z:=.agg #[.string ⟨#[]⟩,.int .i64 0,.string ⟨#[]⟩]) M5.out underlying232 Y1 HSZ.out
    cases hqf:Ya f A with
    | some v=>
     rw[hqf]at R;simp only[jh,Option.isSome_some]at R;obtain⟨y,rfl,⟨rfl,HP⟩|⟨hne,HN⟩⟩:=MET v (.inr hqf)
     ·rw[HVF.out]at R;have d:Bw C (C.alloc (.cells #[.string y,.int .i64 r.1,.string r.2] 240)):=Y6;obtain⟨n0,n1,n2⟩:=cl3 (V.out.below d O0);go_wp2;go_roundw;exact⟨k+1,f,tk,O0,by go_num,U0 (Xd M4.out d O0),HFr,HP,O0,O.trans (But.of_below d)⟩;exact Z9
     unfold hV at R;have d:Bw C (C.alloc (.cells #[.string y,.int .i64 (hC y),.string (hT y)] 240)):=Y6;obtain⟨n0,n1,n2⟩:=cl3 (V.out.below d O0);go_wp2;go_ret2;exact⟨.inr ⟨rfl,HN.out⟩,a6N.trans (d.mono O0)⟩
    | none=>
     rw[hqf]at R;simp only[Option.getD_none,Option.isSome_none]at R;have HFL:Hid (f.length<maxLen):=by show _<_;unfold maxLen;omega
     have HV2:Hid (Ub (.agg #[.string m,.int .i64 r.1,.string r.2])=some (.held (hV m),[])):=by show Ub _=_;rw[HVF.out];rfl
     have HAD:=U0 (HFr.out.add (t:=m) (by rw[HSM.out];exact hqm) (by rw[HSM.out];exact hqf));have HP3:Hid (P8 W ((Pm ls c t).take (k+1)) (ts,true)=(uo W m tk,true)):=by
      show P8 _ _ _=_;rw[HTK.out,Yn,HPu.out];show((qc W m tk).1,true&&(qc W m tk).2)=_;rw[HAD.out.1];rfl
     have HG:Hid (gT W m=(A,hV m)):=by show(G7 m W,hV m)=_;rw[HSM.out]
     go_wp2_with(at_mapUpdate;refine wpList_mapUpdate_own _ rfl _ _ _ 232 rfl 9 240 zy underlying232 Ub (w.heap.size+1) f.length (mapD f) rfl M5.out HFL.out _ _ (kS A) rfl rfl (keyS HSZ.out) (.held (hV m)) [] HV2.out ?_;intro x6 P hg6)
     rw[BB _ hqf]at P
     replace P:=Jk P
     rw[Ad]at P;have hfl:(oh (A,hV m) f).length=f.length+1:=by rw[(Ce _ _).length_eq];rfl
     have a7r:Hid (Fr W (ts.map (gT W)) (oh (A,hV m) f) (uo W m tk)):=by have h:=HAD.out.2;rw[HG.out]at h;exact h
     have HM6:=U0 P;have BT6:=(O.trans (But.of_below b5)).trans (But.a2l hg6);clear P hg6;go_roundw;exact⟨k+1,oh (A,hV m) f,uo W m tk,O0,by go_num,HM6,a7r,HP3,O0,BT6⟩;exact Z9
  obtain rfl:k=(F_ ls).length+1:=O0;have HPF:Hid (P8 W (Pm ls c t) (ts,true)=(tk,true)):=by have h:=HPu.out;rw[C_ (by simp[Pm])]at h;exact h
  go_wp2;go_ret2;exact⟨.inl ⟨w.heap.size+1,f,tk,rfl,O0,HMr.out,HFr.out,HPF.out⟩,BWE.trans (BTr.below O0 O0)⟩
 refine wp_region_held_drew (S:=(λu=>u.cell? ⟨w.heap.size,0,none⟩=some (.int .i64 c)/\u.cell? ⟨w.heap.size,1,none⟩=some (.string t))) Y1 ?_ λhHeld=>?_
 ·exact⟨e0,e1⟩
 refine p_ 0 ?_;refine p_ 2 ?_;refine p_ 6 ?_;refine wpAnyH_ready (rs:=[1,3]) Y1 E5 ?_;refine AllReadyH.cons (o:=⟨some 17,.call ⟨.value (.func 273),#[.tmp 16],#[70]⟩,351,_,_,none⟩) rfl (λK b=>?_) (AllReadyH.cons (o:=⟨some 19,.buildSlice 351 1 #[(0,.tmp 18)],351,_,_,none⟩) rfl (λK b=>?_) AllReadyH.nil)
 ·go_simp;refine(a1C ls a cap _ hl (U7 HLK.out ((G5 _ _).drew))).mono ?_;rintro e u2⟨⟨va,rfl,hva⟩,a7s⟩
  go_wp2_with fail
  have B2:Bw x u2:=((G5 _ _).drew).trans a7s;have s2:=B2.size;have hdr:x.drew.heap.size<=x.heap.size/\x.heap.size<=x.drew.heap.size:=⟨J8 _,J8 _⟩;have p0:=(B2.cell (by show w.heap.size<x.heap.size;omega)).trans e0;have p1:=(B2.cell (by show w.heap.size<x.heap.size;omega)).trans e1;clear hHeld;refine A8 b ⟨p0,p1⟩ λhHeld=>?_;clear b K;refine rq 3 λK b=>?_;go_simp;have D:Bw u2 (u2.alloc (.cells #[.int .i64 c,.string t] 72)):=Y6;have cA:=a1q u2 (.int .i64 c) (.string t) 72;have sA:(u2.alloc (.cells #[.int .i64 c,.string t] 72)).heap.size=u2.heap.size+1:=E5;have q0:=(D.cell (by show w.heap.size<u2.heap.size;omega)).trans p0;have q1:=(D.cell (by show w.heap.size<u2.heap.size;omega)).trans p1;clear hHeld;refine A8 b ⟨q0,q1⟩ λhHeld=>?_;clear b K;have Y:=U0 (own_below hva D);have B3:=B2.trans (D.mono s2);generalize (u2.alloc (.cells #[.int .i64 c,.string t] 72))=u3 at*;refine rq 4 λK b=>?_;refine ul rfl (.tmp 17) (.tmp 19) 351 rfl _ 72 i0 (.agg #[.int .i64 0,.string ⟨#[]⟩]) 2 24 underlying351 hi hz0 hz1 hz2 rfl Z5 va _ _ rfl Y.out ⟨u2.heap.size,0,none⟩ 1 1 [.int .i64 c,.string t] rfl rfl cA (by simp[Value.oneCell']) HM1.out HM2.out O0 ?_;intro v4 u4 ho4 hg4 hl4;have F:=B3.trans (N_ hg4 (λj e=>I8 O0 (Z4 Y.out e)) O0);have s4:=F.size;have I:=U0 (P7 ho4 (base':=x.heap.size) O0);obtain⟨N,L,hv4⟩:=V9 I.out;have k0:=(F.cell (by show w.heap.size<x.heap.size;omega)).trans e0;have k1:=(F.cell (by show w.heap.size<x.heap.size;omega)).trans e1;subst hv4;clear hHeld;refine A8 b ⟨k0,k1⟩ λhHeld=>?_;clear b K;refine sq ?_;refine wdn ?_;exact TAIL va u2.heap.size N L u4 F I
 go_simp;have D:Bw x ((x.alloc (.cells #[.int .i64 c,.string t] 72)).drew):=Y6.drew;have cA0:=a1q x (.int .i64 c) (.string t) 72;have sA:((x.alloc (.cells #[.int .i64 c,.string t] 72)).drew).heap.size=x.heap.size+1:=E5;have q0:=(D.cell (by show w.heap.size<x.heap.size;omega)).trans e0;have q1:=(D.cell (by show w.heap.size<x.heap.size;omega)).trans e1;clear hHeld;refine A8 b ⟨q0,q1⟩ λhHeld=>?_;clear b K;have cA1:∀j u,[Value.int .i64 c,.string t][j]?=some u->((x.alloc (.cells #[.int .i64 c,.string t] 72)).drew).cell? ((⟨x.heap.size,0,none⟩:Addr).add j)=some u:=cA0;generalize ((x.alloc (.cells #[.int .i64 c,.string t] 72)).drew)=u2 at*;refine rq 1 λK b=>?_;go_simp;refine(a1C ls a cap _ hl (U7 HLK.out D)).mono ?_;rintro e u3⟨⟨va,rfl,hva⟩,a6m⟩
 go_wp2_with fail
 have s3:=a6m.size;have B3:=D.trans (a6m.mono O0);have q2:=(a6m.cell (by show w.heap.size<u2.heap.size;omega)).trans q0;have q3:=(a6m.cell (by show w.heap.size<u2.heap.size;omega)).trans q1;have cA:∀j u,[Value.int .i64 c,.string t][j]?=some u->u3.cell? ((⟨w.heap.size+2,0,none⟩:Addr).add j)=some u:=λj u h=>by
  rw[<- s1];exact(a6m.cell (by rw[Bl];show x.heap.size<u2.heap.size;omega)).trans (cA1 j u h)
 clear hHeld;refine A8 b ⟨q2,q3⟩ λhHeld=>?_;clear b K;have Y:=U0 hva;refine rq 4 λK b=>?_;refine ul rfl (.tmp 17) (.tmp 19) 351 rfl _ 72 i0 (.agg #[.int .i64 0,.string ⟨#[]⟩]) 2 24 underlying351 hi hz0 hz1 hz2 rfl Z5 va _ _ rfl Y.out ⟨w.heap.size+2,0,none⟩ 1 1 [.int .i64 c,.string t] rfl rfl cA (by simp[Value.oneCell']) HM1.out HM2.out O0 ?_;intro v4 u4 ho4 hg4 hl4;have F:=B3.trans (N_ hg4 (λj e=>I8 O0 (Z4 Y.out e)) O0);have s4:=F.size;have I:=U0 (P7 ho4 (base':=x.heap.size) O0);obtain⟨N,L,hv4⟩:=V9 I.out;have k0:=(F.cell (by show w.heap.size<x.heap.size;omega)).trans e0;have k1:=(F.cell (by show w.heap.size<x.heap.size;omega)).trans e1;subst hv4;clear hHeld;refine A8 b ⟨k0,k1⟩ λhHeld=>?_;clear b K;refine sq ?_;refine wdn ?_;exact TAIL va (w.heap.size+2) N L u4 F I
open Classical in
noncomputable def x_(W:Int)(ts:LB)(rs:List R3)(m:M3)(ls:List L4)(c:Int)(t:BY):Int:=
 if ¬Fg m ls c t then 2 else if (P8 W (Pm ls c t) (ts,true)).2=false then 3 else
 if 300<(P8 W (Pm ls c t) (ts,true)).1.length\/150<(Vg rs (Ri W m ls c t)).length then 4 else 0
theorem fZ{s:BY}{v:Bool}(hv:vr c s.data.toList=v)(w:World)(a:s.size<=1048700):Calls prog 203 #[.agg #[.int .i64 c,.string s]] w λe w'=>e=.returned (.bool v)/\Bw w w':=hv▸c203 c s w a
theorem bH(h:Uf m=true):(uf m).size<=321:=by
 unfold Uf X6 at h;simp only[Ia,rf]at h;have e:m.tl.data.toList.length=m.tl.size:=Zw;have h1:=h.1.2.1.2;have h2:=h.2;unfold uf;rw[jK,jK];have e1:(⟨#[32]⟩:BY).size=1:=rfl;omega
theorem nT{a:Int}(h:0<=a/\a<=1000000):IntKind.i64.wrap a=a:=by
 exact IntWalk.i64_in a O0
theorem zT(W:Int)(t:BY)(ts:LB):(uo W t ts).length=ts.length+1:=by
 have h:=l7 List.length (pz W t ts);rw[Cf,(Ce _ _).length_eq]at h;simpa using h
theorem XP(W:Int)(t:BY)(ts:LB):(qc W t ts).1.length<=ts.length+1:=by
 unfold qc;split
 ·exact Nat.le_succ _
 rw[zT];exact J8 _
theorem QB(W:Int):∀(a ts:LB)(b:Bool),(P8 W a (ts,b)).1.length<=ts.length+a.length
 | [],ts,b=>J8 _
 | t::r,ts,b=>by
  have h1:=QB W r (qc W t ts).1 (b&&(qc W t ts).2);have h2:=XP W t ts;have e:P8 W (t::r) (ts,b)=P8 W r ((qc W t ts).1,b&&(qc W t ts).2):=rfl;rw[e,u_];omega
theorem a1g{d:OA}{m:Nat}(h:E.ownsRow base 213 3 (.slice d n m) ls.length (pG W ls)):R_ E d (ls.map (Dy W))/\(ls.map (Dy W)=[]\/∃b off,d=some ⟨b,off,none⟩/\∃cur fr,E.heap[b]?=some (.cells cur 213 fr)):=by
 have c:=h;have i:∀(l:List L4)(k:Nat),k<l.length->(pG W l)[k*3]?=some (.bool (l.getD k M_).has)/\(pG W l)[k*3+1]?=some (vS (l.getD k M_).nm)/\(pG W l)[k*3+2]?=some (vS (G7 (Xq (l.getD k M_)) W)):=by
  intro l
  induction l with
  | nil=>intro k a;exact absurd a (y9 _)
  | cons x r ih=>
   intro k a
   cases k with
   | zero=>exact⟨rfl,rfl,rfl⟩
   | succ k=>
    have:=ih k (by simpa using a);have e1:(k+1)*3=k*3+1+1+1:=O0;rw[e1];exact this
 rcases h.2 with⟨hv,h0⟩|⟨g,cap,cur,hv,hg,f,_⟩
 ·have e:=Qb.1 h0;subst e;exact⟨.inl rfl,.inl rfl⟩
 simp only[Xt]at hv;obtain⟨rfl,rfl,rfl⟩:=hv;refine⟨.inr ⟨g,0,rfl,(Eb.1 f).1,λk a=>?_⟩,.inr ⟨g,0,rfl,cur,(0,0),f⟩⟩;rw[Cf]at a;have e:(ls.map (Dy W)).getD k zh=Dy W (ls.getD k M_):=by simp only[List.getD,Rt,L9 a,Iw,jh]
 obtain⟨e0,e1,j⟩:=i ls k a;rw[e];refine⟨?_,?_,?_⟩
 ·rw[o9,c.cellAt (k*3) O0];exact e0
 ·rw[o9,c.cellAt (k*3+1) O0];exact e1
 rw[o9,c.cellAt (k*3+2) O0];exact j
theorem Fr.vals{l f:List (ByteArray×Value)}(h:Fr W l f ts):∀p∈f,∃q,p.2=mk3 q:=λp a=>by
 obtain⟨y,_,rfl⟩:=zl.1 (h.perm.mem_iff.2 (JF l a));exact⟨(y,hC y,hT y),rfl⟩
theorem dH{x:R3}(h:rs.length<=150):150<(Vg rs x).length↔x∉rs/\rs.length=150:=by
 unfold Vg;split
 ·rename_i hx;constructor
  ·intro h1;omega
  intro h1;exact absurd hx h1.1
 rename_i hx;simp only[P9,Oj];constructor
 ·intro h1;exact⟨hx,O0⟩
 intro h1;omega
theorem jM{x:L4}(h:x.tx.size<=1048576):(Xq x).size<=1048700:=by
 unfold Xq;split
 ·split<;>decide
 have:=Qq x.cd x.tx;unfold ZB at this;omega
def a0h(B H bT bR bP:Nat)(W:Int)(ts:LB)(rs:List R3)(m:M3)(ls:List L4)(c:Int)(t:BY)(w':World)(e:Ending):Prop:=
 e=.returned (.int .i64 (x_ W ts rs m ls c t))/\(x_ W ts rs m ls c t=0->∃rv',Sh B H bT bR bP W ((P8 W (Pm ls c t) (ts,true)).1.map (gT W)) (Vg rs (Ri W m ls c t)) rv' w')
theorem iD{n:Int}(h:x_ W ts rs m ls c t=n)(a:n≠0):a0h B H bT bR bP W ts rs m ls c t w' (.returned (.int .i64 n)):=⟨by rw[h],λe=>absurd (h.symm.trans e) a⟩
theorem a3f{a:List Value}(h:x_ W ts rs m ls c t=0)(b:Sh B H bT bR bP W ((P8 W (Pm ls c t) (ts,true)).1.map (gT W)) (Vg rs (Ri W m ls c t)) a w'):a0h B H bT bR bP W ts rs m ls c t w' (.returned (.int .i64 0)):=⟨by rw[h],λ_=>⟨a,b⟩⟩
theorem a3D(B H bT bR bP:Nat)(W:Int)(ts:LB)(rs:List R3)(rv:List Value)(m:M3)(ls:List L4)(c:Int)(t:BY)(a:OA)(cap:Nat)(w:World)(hSh:Sh B H bT bR bP W (ts.map (gT W)) rs rv w)(hW:1<=W/\W<=8)(hA:Hl W ts)(htl:ts.length<=300)(hrl:rs.length<=150)(hgs:∀i,(rs.getD i h_).gs.length<=1048576)(hm:m.le 1048576)(hl:ls.length<=1048576)(Y:∀i,(ls.getD i M_).le 1048576)(ht:t.size<=1048576)(hat:S9 w a ls):
 Calls prog 190 #[.pointer (some ⟨H,0,none⟩),.agg #[.string m.nm,.string m.tl,.string m.ar],.slice a ls.length cap,.agg #[.int .i64 c,.string t]] w λe w'=>a0h B H bT bR bP W ts rs m ls c t w' e/\Below B w w'/\KF w w':=by
 have s:B<=w.heap.size:=by obtain⟨pl,h1,_⟩:=hSh;have:=h1.hH;have:=h1.lt;omega
 have BW0:Bw w ((w.alloc (.cells #[vS m.nm,vS m.tl,vS m.ar] 69)).alloc (.cells #[vI c,vS t] 72)):=Y6.alloc E5 _;have s0:((w.alloc (.cells #[vS m.nm,vS m.tl,vS m.ar] 69)).alloc (.cells #[vI c,vS t] 72)).heap.size=w.heap.size+2:=E5;have V:Hid (U6 ((w.alloc (.cells #[vS m.nm,vS m.tl,vS m.ar] 69)).alloc (.cells #[vI c,vS t] 72)) w.heap.size [vS m.nm,vS m.tl,vS m.ar]):=U0 ((a_ w [vS m.nm,vS m.tl,vS m.ar] 69).below (N:=w.heap.size+1) ((G5 _ _).alloc E5 _) O0);have BC0:Hid (U6 ((w.alloc (.cells #[vS m.nm,vS m.tl,vS m.ar] 69)).alloc (.cells #[vI c,vS t] 72)) (w.heap.size+1) [vI c,vS t]):=by have h:=a_ (w.alloc (.cells #[vS m.nm,vS m.tl,vS m.ar] 69)) [vI c,vS t] 72;rw[show(w.alloc (.cells #[vS m.nm,vS m.tl,vS m.ar] 69)).heap.size=w.heap.size+1 by simp]at h;exact h
 have k0:=V.out 0 _ rfl;have k1:=V.out 1 _ rfl;have k2:=V.out 2 _ rfl;have HSH:=U0 hSh;have hkR:m.tl.size<=1048576/\m.ar.size<=1048576:=⟨hm.2.1,hm.2.2⟩;have HM7:Hid (m.le 1048700):=⟨I8 hm.1 O0,I8 hm.2.1 O0,I8 hm.2.2 O0⟩
 go_in
 go_wp2_with fail
 generalize ((w.alloc (.cells #[vS m.nm,vS m.tl,vS m.ar] 69)).alloc (.cells #[vI c,vS t] 72))=U1 at*;cases hn:Uf m
 ·have d:Hid (x_ W ts rs m ls c t=2):=by show x_ _ _ _ _ _ _ _=2;unfold x_;rw[if_pos (λh=>by have h1:=h.1;rw[hn]at h1;cases h1)]
  refine(tK hn _ HM7).mono ?_;rintro e w1⟨rfl,v⟩;go_wp2;go_ret;exact⟨iD d Z5,(BW0.trans (v.mono O0)).mono s,Zd (BW0.trans (v.mono O0)) X7⟩
 refine(tK hn _ HM7).mono ?_;rintro e w1⟨rfl,v⟩;have s1:=v.size;have BK1:=U0 (V.out.below v O0);have BC1:=U0 (BC0.out.below v O0);have BW1:=BW0.trans (v.mono O0)
 go_wp2_with fail
 refine(a1i a cap ls _ hl Y (U7 hat BW1)).mono ?_;rintro e w2⟨⟨r,rfl,hr⟩,L⟩;have s2:=L.size;have BK2:=U0 (BK1.out.below L O0);have BC2:=U0 (BC1.out.below L O0);have U:=BW1.trans (L.mono O0);have j0:=BC2.out 0 _ rfl;have j1:=BC2.out 1 _ rfl;cases r
 ·have d:Hid (x_ W ts rs m ls c t=2):=by show x_ _ _ _ _ _ _ _=2;unfold x_;rw[if_pos (λh=>absurd (hr.2 h.2.1) Z5)]
  go_wp2;go_ret;exact⟨iD d.out Z5,U.mono s,Zd U X7⟩
 have hlo:=hr.1 rfl;clear hr
 go_wp2_with fail
 cases hv:vr c t.data.toList
 ·have d:Hid (x_ W ts rs m ls c t=2):=by show x_ _ _ _ _ _ _ _=2;unfold x_;rw[if_pos (λh=>by have h1:=h.2.2;rw[hv]at h1;cases h1)]
  refine(fZ hv _ O0).mono ?_;rintro e w3⟨rfl,C⟩;have D:=U.trans (C.mono O0);go_wp2;go_ret;exact⟨iD d Z5,D.mono s,Zd D X7⟩
 refine(fZ hv _ O0).mono ?_;rintro e w3⟨rfl,C⟩;have s3:=C.size;have BK3:=U0 (BK2.out.below C O0);have BC3:=U0 (BC2.out.below C O0);have D:=U.trans (C.mono O0);have HRK:Hid (Fg m ls c t):=⟨hn,hlo,hv⟩;have i0:=BC3.out 0 _ rfl;have i1:=BC3.out 1 _ rfl;have HL3:=U0 (U7 hat D);have HS3:=U0 (HSH.out.below D);have h63:=c232 B H bT bR bP W ts rs rv ls c t a cap w3 HS3 hW hA hlo hv hl HL3
 go_wp2_with fail
 refine h63.mono ?_;rintro e I⟨hfr,A⟩;have s4:=A.size;have BK4:=U0 (BK3.out.below A O0);have BC4:=U0 (BC3.out.below A O0);have BW4:=D.trans (A.mono O0);rcases hfr with⟨bF,f,J,rfl,hbF,hmF,hFr,hpu⟩|⟨rfl,hno⟩
 ·have Q:=U0 hFr;have O:=U0 hpu;have HMF:=U0 hmF;have HS4:=U0 (HS3.out.below A);have HL4:=U0 (U7 HL3 A);have q0:=BC4.out 0 _ rfl;have q1:=BC4.out 1 _ rfl;have p0:=BK4.out 0 _ rfl;have p1:=BK4.out 1 _ rfl;have p2:=BK4.out 2 _ rfl;have hfl:f.length+ts.length=J.length:=by have:=hFr.done.2;rw[Cf]at this;omega
  have hH4:H<I.heap.size/\I.cell? (aA H 0)=some (vI W):=by obtain⟨pl,h1,_⟩:=HS4.out;exact⟨h1.lt,h1.blk 0 _ rfl⟩
  have h64:=c233 m ls c t W H a cap I ⟨Nat.le_trans hm.1 O0,Nat.le_trans hm.2.1 O0,Nat.le_trans hm.2.2 O0⟩ O0 (by have:=Qq c t;unfold ZB at this;omega) hl (λi=>⟨Nat.le_trans (Y i).2 O0,jM (Y i).2⟩) HL4 hH4.1 hH4.2
  go_wp2_with fail
  refine h64.mono ?_;rintro e p⟨⟨v5,rfl,hv5⟩,hb5⟩;obtain⟨l,g,rfl⟩:=V9 hv5;have s5:=hb5.size;have a6D:Bw I (p.alloc (.cells #[vS (uf m),vL l ls.length g,vS (G7 (I4 (g_ c t.data.toList)) W)] 162)):=hb5.alloc s5 _;have sX:(p.alloc (.cells #[vS (uf m),vL l ls.length g,vS (G7 (I4 (g_ c t.data.toList)) W)] 162)).heap.size=p.heap.size+1:=E5;have BWx:=BW4.trans (a6D.mono O0);have HSx:=U0 (HS4.out.below a6D);have HMx:=U0 (Xd HMF a6D HMF.out.lt);have R:Hid (U6 (p.alloc (.cells #[vS (uf m),vL l ls.length g,vS (G7 (I4 (g_ c t.data.toList)) W)] 162)) p.heap.size [vS (uf m),vL l ls.length g,vS (G7 (I4 (g_ c t.data.toList)) W)]):=U0 (a_ p [vS (uf m),vL l ls.length g,vS (G7 (I4 (g_ c t.data.toList)) W)] 162);have hrow:=own_below hv5 ((G5 _ _).alloc X7 (.cells #[vS (uf m),vL l ls.length g,vS (G7 (I4 (g_ c t.data.toList)) W)] 162));have GR:=U0 (a1g hrow);obtain⟨x,hx⟩:∃x,Ri W m ls c t=x:=⟨_,rfl⟩;have HX:=U0 hx;have X:x.key=uf m:=by rw[<- hx];rfl
  have hxo:x.out=G7 (I4 (g_ c t.data.toList)) W:=by rw[<- hx];rfl
  have K:x.gs=ls.map (Dy W):=by rw[<- hx];rfl
  have hxl:x.gs.length=ls.length:=by rw[K];simp
  have hxs:x.key.size<=321:=by rw[X];exact bH hn
  have HRV:Hid (qC B (p.alloc (.cells #[vS (uf m),vL l ls.length g,vS (G7 (I4 (g_ c t.data.toList)) W)] 162)) (.agg #[vS x.key,vL l x.gs.length g,vS x.out]) x):=⟨l,g,rfl,by rw[K];exact GR.out.1,by
   rw[K];rcases GR.out.2 with h|⟨b,off,h1,h2⟩
   ·exact .inl h
   exact .inr ⟨b,off,h1,.inr h2⟩⟩
  have h65:=c234 B H bT bR bP W _ rs rv x l g (p.alloc (.cells #[vS (uf m),vL l ls.length g,vS (G7 (I4 (g_ c t.data.toList)) W)] 162)) HSx (by rw[K];exact GR.out.1) O0 O0 O0 hgs;rw[X,hxl,hxo]at h65;have z0:=R.out 0 _ rfl;have z1:=R.out 1 _ rfl;have z2:=R.out 2 _ rfl
  go_wp2_with fail
  refine h65.mono ?_;rintro e w6⟨⟨bt,rfl,hbt⟩,z⟩;generalize (p.alloc (.cells #[vS (uf m),vL l ls.length g,vS (G7 (I4 (g_ c t.data.toList)) W)] 162))=x5 at*;have s6:=z.size;have u:=BWx.trans (z.mono O0);have HF6:=U0 (Xd HMx z HMx.out.lt);have S:=U0 (R.out.below z O0);have RV6:=U0 (HRV.out.kept (Yf z) (λ_ e=>by cases e));obtain⟨pl,y,hR6⟩:=HSx.out.below z;have q:=U0 y;have a6O:=U0 hR6;have HT6:=U0 y.tx;have HR6:=U0 y.rc;have f1:=y.blk 1 _ rfl;have f2:=y.blk 2 _ rfl;have o0:=S.out 0 _ rfl;have o1:=S.out 1 _ rfl;have o2:=S.out 2 _ rfl;have a7t:bT<w.heap.size:=by obtain⟨pl',h1,_⟩:=HSH.out;exact h1.tx.lt
  have Z:=U0 hR6.len;have a8i:rv.length<=150:=by rw[Z.out];exact hrl
  have HDN:=U0 Q.out.done.1;have hfn:f.length<=16:=by
   have h1:=QB W (Pm ls c t) ts true;rw[O.out]at h1;have h2:(Pm ls c t).length=(F_ ls).length+1:=by simp[Pm]
   have h3:=KA ls;have h4:=hlo.1;simp only at h1;omega
  have h66:=a4j bT bF _ _ _ f w6 HT6 HF6 Q.out.vals O0 (by rw[Ad,List.length_map];unfold maxLen;omega);have P:Hid (((300<J.length\/(x∉rs/\rs.length=150))->x_ W ts rs m ls c t=4)/\(¬(300<J.length\/(x∉rs/\rs.length=150))->x_ W ts rs m ls c t=0)):=by
   show _/\_;have e:x_ W ts rs m ls c t=if 300<J.length\/150<(Vg rs x).length then 4 else 0:=by
    unfold x_;rw[Y7 (λh=>h HRK.out),O.out,Y7 E5,HX.out]
   rw[e];exact⟨λh=>L8 (h.imp id (dH hrl).2),λh=>Y7 (λk=>h (k.imp id (dH hrl).1))⟩
  have hwr:IntKind.i64.wrap ((ts.length:Int)+(f.length:Int))=(ts.length:Int)+(f.length:Int):=nT O0;have hlT:=y.tx.len underlying232 3;rw[Ad,Cf]at hlT;have hlF:=HF6.out.len underlying232 3;rw[Ad]at hlF;have hlR:=y.rc.len underlying233 3;rw[Om]at hlR;by_cases a6i:300<ts.length+f.length
  ·have d:Hid (x_ W ts rs m ls c t=4):=by show x_ _ _ _ _ _ _ _=4;exact P.out.1 (.inl O0)
   have hi3:(300:Int)<(ts.length:Int)+(f.length:Int):=O0;go_wp2;go_ret;exact⟨iD d Z5,u.mono s,Zd u X7⟩
  have hi3:¬(300:Int)<(ts.length:Int)+(f.length:Int):=O0;cases bt
  ·have HNX:Hid (x∉rs):=λh=>absurd (hbt.2 h) Z5;by_cases a6B:rv.length=150
   ·have d:Hid (x_ W ts rs m ls c t=4):=by show x_ _ _ _ _ _ _ _=4;exact P.out.1 (.inr ⟨HNX,by rw[<- Z.out];exact a6B⟩)
    go_wp2;go_ret;exact⟨iD d Z5,u.mono s,Zd u X7⟩
   have d:Hid (x_ W ts rs m ls c t=0):=by show x_ _ _ _ _ _ _ _=0;exact P.out.2 (λh=>h.elim (λh=>O0) (λh=>a6B (Z.out.trans h.2)))
   have hi5:((rv.length:Int)==150)=false:=by rw[V_];omega
   go_wp2_with fail
   refine h66.mono ?_;rintro e E⟨rfl,n,o⟩;rw[HDN.out]at n
   replace n:=Jk n
   rw[Ad]at n;have C7:=U0 (q.out.upT o n Q.out.asc);have R7:=U0 (a6O.out.JZ o q);have B7:=N_ o (λj e=>by cases e;exact q.out.hT) O0;have BB7:=(u.mono s).trans B7;have KK7:Hid (KF w E):=by obtain⟨es,ck,F⟩:=Ii q.out.tx;exact(Zd u X7).trans (QA o F)
   have neT:some p.heap.size≠some bT:=λe=>by have:=I_ e;omega
   have E7:=U0 (Ob S o O0 neT);have u0:=E7.out 0 _ rfl;have u1:=E7.out 1 _ rfl;have u2:=E7.out 2 _ rfl;have RV7:=RV6.out.kept o (by obtain⟨es,ck,F⟩:=Ii q.out.tx;exact Sv q.out.hT F);have h59:=a1Z B H bT bR bP W _ rs rv x l g E ⟨pl,C7,R7⟩ RV7 O0 O0;rw[X,hxl,hxo]at h59
   go_wp2_with fail
   refine h59.mono ?_;rintro e w8⟨rfl,hS8,hB8,hK8⟩;have HK8:=U0 hK8;have HS8:Hid (Sh B H bT bR bP W ((P8 W (Pm ls c t) (ts,true)).1.map (gT W)) (Vg rs (Ri W m ls c t)) (rv++[.agg #[vS (uf m),vL l ls.length g,vS (G7 (I4 (g_ c t.data.toList)) W)]]) w8):=by
    show Sh _ _ _ _ _ _ _ _ _ _;rw[O.out,HX.out,Vg,Y7 HNX.out];exact hS8
   clear h59 hS8;go_wp2;go_ret;exact⟨a3f d.out HS8.out,BB7.trans hB8,KK7.out.trans HK8.out⟩
  have HIX:Hid (x∈rs):=by show x∈rs;simpa using hbt
  have d:Hid (x_ W ts rs m ls c t=0):=by show x_ _ _ _ _ _ _ _=0;exact P.out.2 (λh=>h.elim (λh=>O0) (λh=>h.1 HIX.out))
  clear hbt
  go_wp2_with fail
  refine h66.mono ?_;rintro e E⟨rfl,n,o⟩;rw[HDN.out]at n
  replace n:=Jk n
  rw[Ad]at n;have C7:=U0 (q.out.upT o n Q.out.asc);have R7:=U0 (a6O.out.JZ o q);have B7:=N_ o (λj e=>by cases e;exact q.out.hT) O0;have BB7:=(u.mono s).trans B7;have KK7:Hid (KF w E):=by obtain⟨es,ck,F⟩:=Ii q.out.tx;exact(Zd u X7).trans (QA o F)
  have HS8:Hid (Sh B H bT bR bP W ((P8 W (Pm ls c t) (ts,true)).1.map (gT W)) (Vg rs (Ri W m ls c t)) rv E):=by
   show Sh _ _ _ _ _ _ _ _ _ _;rw[O.out,HX.out,Vg,L8 HIX.out];exact⟨pl,C7,R7⟩
  go_wp2;go_ret;exact⟨a3f d HS8,BB7,KK7⟩
 have d:Hid (x_ W ts rs m ls c t=3):=by show x_ _ _ _ _ _ _ _=3;unfold x_;rw[if_neg (λh=>h HRK.out),if_pos hno]
 go_wp2;go_ret;exact⟨iD d Z5,BW4.mono s,Zd BW4 X7⟩
