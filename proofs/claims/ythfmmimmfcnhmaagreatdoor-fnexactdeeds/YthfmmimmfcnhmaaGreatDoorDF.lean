import Derived.Test.YthfmmimmfcnhmaaGreatDoorDD
import Derived.Test.YthfmmimmfcnhmaaGreatDoorZ48
set_option linter.unusedVariables false
set_option maxHeartbeats 8000000
set_option maxRecDepth 100000
namespace Go.Proofs.YthfmmimmfcnhmaaGreatDoor
open Proofs.Tryz
open Go.RowKit
open G (plF IsPT)
open G.T (F2 f2z treeOk FilesAt lt)
variable {ws:List W8} {ms:List M3} {fs:List F2}
theorem fnd_all {E:Env} (hE:EnvOk E) (hm:ws.map (·.m)=ms.map toM) (hms:E.ms=ms.map toM) {m:M3} (h:m∈E.ms):∃ z,fndW ws m.nm=some z/\z.m=m:=by
 rw [hms,<- hm] at h
 obtain ⟨z,hz,rfl⟩:=List.mem_map.1 h
 cases hf:fndW ws z.m.nm with
 | none=>
  unfold fndW at hf
  have:=List.find?_eq_none.1 hf z hz
  simp at this
 | some y=>
  refine ⟨y,rfl,?_⟩
  obtain ⟨h1,i,hi,h2⟩:=fnd_mem hf
  have hy:y.m∈E.ms:=by
   rw [hms,<- hm]
   refine List.mem_map.2 ⟨y,?_,rfl⟩
   rw [<- h2]
   simp [List.getD,List.getElem?_eq_getElem hi]
  have hz':z.m∈E.ms:=by rw [hms,<- hm];exact List.mem_map.2 ⟨z,hz,rfl⟩
  exact hE.one _ _ hy hz' h1
open Classical in
theorem looks_of (ht:treeOk fs) (hp:IsPT fs ms) (hok:∀ i,i<ws.length->WOk (envOf fs ms) (ws.getD i w8z)) (hm:ws.map (·.m)=ms.map toM) (hb:∀ i,i<ws.length->Blk fs ms ws (ws.getD i w8z)) (n:ByteArray):IsLk (envOf fs ms) n ((fndW ws n).elim [] (·.ls)):=by
 have hE:=envOk ht hp
 have hfa:∀ {m:M3},m∈(envOf fs ms).ms->∃ z,fndW ws m.nm=some z/\z.m=m/\WOk (envOf fs ms) z/\Blk fs ms ws z:=fun h=>by
  obtain ⟨z,h1,h2⟩:=fnd_all hE hm rfl h
  obtain ⟨_,i,hi,h3⟩:=fnd_mem h1
  exact ⟨z,h1,h2,h3▸hok i hi,h3▸hb i hi⟩
 cases hpl:plF fs ms n with
 | some p=>
  have h1:(envOf fs ms).pl n=some (ofP p):=by show (plF fs ms n).map ofP=_;rw [hpl];rfl
  refine .inl ⟨by rw [h1];simp,?_⟩
  cases hf:fndW ws n with
  | none=>rfl
  | some z=>
   obtain ⟨e1,i,hi,e2⟩:=fnd_mem hf
   have:=(hE.made n).2 ⟨z.m,e2▸(hok i hi).mem,e1⟩
   rw [h1] at this;cases this
 | none=>
  have hpn:(envOf fs ms).pl n=none:=pl_none.2 hpl
  obtain ⟨m,hmm,rfl⟩:=(hE.made n).1 hpn
  obtain ⟨z,hz,rfl,hzk,hzb⟩:=hfa hmm
  refine .inr ⟨z.m,hmm,rfl,by rw [hz];exact hzk.his,fun ls hh=>?_⟩
  have key:=closed_pre hE (D:=fun m=>m∈(envOf fs ms).ms) (O:=fun m=>(fndW ws m.nm).elim False (fun z=>z.ov=true)) (L:=fun m=>(fndW ws m.nm).elim [] (·.ls)) (fun m h=>h) (fun m h=>by
   obtain ⟨z,h1,rfl,h3,_⟩:=hfa h
   show Hist _ _ ((fndW ws z.m.nm).elim [] (·.ls))
   rw [h1]
   exact h3.his) (fun m h ho=>by
   obtain ⟨z,h1,rfl,h3,_⟩:=hfa h
   show (tn z.m ((fndW ws z.m.nm).elim [] (·.ls))).over=true
   rw [h1] at ho ⊢
   exact (h3.ov ho).1) (fun m h hno=>by
   obtain ⟨z,h1,rfl,h3,h4⟩:=hfa h
   show (tn z.m ((fndW ws z.m.nm).elim [] (·.ls))).over=false/\(tn z.m ((fndW ws z.m.nm).elim [] (·.ls))).has=false/\(envOf fs ms).pl (tn z.m ((fndW ws z.m.nm).elim [] (·.ls))).name=none/\∀ m',m'∈(envOf fs ms).ms->m'.nm=(tn z.m ((fndW ws z.m.nm).elim [] (·.ls))).name->m'∈(envOf fs ms).ms/\¬ (fndW ws m'.nm).elim False (fun z=>z.ov=true)
   rw [h1] at hno ⊢
   have hzo:z.ov=false:=by cases ho:z.ov;rfl;exact absurd ho hno
   obtain ⟨p1,p2,p3,_⟩:=h4 hzo
   have hpn:plF fs ms (tn z.m z.ls).name=none:=by
    cases hq:plF fs ms (tn z.m z.ls).name with
    | none=>rfl
    | some p=>unfold knW at p3;rw [hq] at p3;cases p3
   refine ⟨p1,p2,pl_none.2 hpn,fun m' hm' hn'=>⟨hm',?_⟩⟩
   obtain ⟨z',k1,rfl,k3,k4⟩:=hfa hm'
   rw [k1]
   intro ho
   have hn'':z'.m.nm=(tn z.m z.ls).name:=hn'
   rw [<- hn''] at p3 hpn
   unfold knW at p3
   rw [hpn,k1] at p3
   have p3:z'.ov=false:=p3
   have ho:z'.ov=true:=ho
   rw [ho] at p3
   cases p3) hh hmm
  exact key
def wrapW (p:R2×Bool):R2:=if p.2 then p.1 else ⟨6,⟨#[]⟩⟩
noncomputable def dW (fs:List F2) (ms:List M3) (ws:List W8) (n:ByteArray):Dd:=match fndW ws n with
 | some z=>⟨n,true,z.m,z.ls,wrapW (knW fs ms ws n),z.wt⟩
 | none=>⟨n,false,m3z,[],wrapW (knW fs ms ws n),⟨#[]⟩⟩
theorem deeds_of (ht:treeOk fs) (hp:IsPT fs ms) (hok:∀ i,i<ws.length->WOk (envOf fs ms) (ws.getD i w8z)) (hm:ws.map (·.m)=ms.map toM) (hb:∀ i,i<ws.length->Blk fs ms ws (ws.getD i w8z)) (n:ByteArray):IsDd (envOf fs ms) n (dW fs ms ws n):=by
 have hE:=envOk ht hp
 have hl:=looks_of ht hp hok hm hb n
 cases hf:fndW ws n with
 | none=>
  rw [hf] at hl
  cases hpl:plF fs ms n with
  | none=>
   obtain ⟨m,hmm,rfl⟩:=(hE.made n).1 (pl_none.2 hpl)
   obtain ⟨z,h1,_⟩:=fnd_all hE hm rfl hmm
   rw [hf] at h1;cases h1
  | some p=>
   refine .inl ⟨ofP p,by show (plF fs ms n).map ofP=_;rw [hpl];rfl,?_⟩
   unfold dW wrapW knW
   rw [hf,hpl]
   rfl
 | some z=>
  obtain ⟨rfl,i,hi,e2⟩:=fnd_mem hf
  have hzk:=hok i hi
  have hzb:=hb i hi
  rw [e2] at hzk hzb
  have hpn:=(hE.made z.m.nm).2 ⟨z.m,hzk.mem,rfl⟩
  rw [hf] at hl
  rcases hl with ⟨h,_⟩ | ⟨m',q1,q2,q3,q4⟩
  · exact absurd hpn h
  obtain rfl:=hE.one _ _ q1 hzk.mem q2
  refine .inr ⟨z.m,z.ls,hzk.mem,rfl,q3,q4,?_⟩
  unfold dW wrapW knW
  rw [hf,pl_none.1 hpn]
  dsimp only
  by_cases ho:z.ov=true
  · obtain ⟨p1,p2⟩:=hzk.ov ho
    rw [if_pos ho,if_pos p1,if_pos p1,p2,hzk.wt ho]
  obtain ⟨p1,_,_,p4⟩:=hzb (by simpa using ho)
  rw [if_neg ho,if_neg (by rw [p1];simp),if_neg (by rw [p1];simp),p4]
theorem fnd_self (hp:IsPT fs ms) (hm:ws.map (·.m)=ms.map toM) {i:Nat} (hi:i<ws.length):fndW ws (ws.getD i w8z).m.nm=some (ws.getD i w8z):=by
 have hl:ws.length=ms.length:=by simpa using congrArg List.length hm
 have hn:∀ j,j<ws.length->(ws.getD j w8z).m.nm=(ms.getD j m3z).nm:=fun j hj=>by
  have:(ws.map (·.m))[j]?=(ms.map toM)[j]?:=by rw [hm]
  rw [List.getElem?_map,List.getElem?_map,List.getElem?_eq_getElem hj,List.getElem?_eq_getElem (by omega)] at this
  have e:ws[j].m=toM ms[j]:=Option.some.inj this
  simp only [List.getD,List.getElem?_eq_getElem hj,List.getElem?_eq_getElem (show j<ms.length by omega),Option.getD_some]
  rw [e];rfl
 refine fnd_at hi (fun j hj e=>?_) rfl
 rw [hn j (by omega),hn i hi] at e
 have:=G.ascM_once (G.isPT_asc hp) (by omega) (by omega) e
 omega
theorem wys_of (ht:treeOk fs) (hp:IsPT fs ms) (hok:∀ i,i<ws.length->WOk (envOf fs ms) (ws.getD i w8z)) (hm:ws.map (·.m)=ms.map toM) (hb:∀ i,i<ws.length->Blk fs ms ws (ws.getD i w8z)):Wys (envOf fs ms) ws:=by
 have hd:=deeds_of ht hp hok hm hb
 refine ⟨fun i hi k hk=>⟨_,hd _,?_⟩,fun n k ⟨d,h1,h2⟩=>?_⟩
 · unfold dW;rw [fnd_self hp hm hi];exact hk
 obtain rfl:=isDd_one (envOk ht hp) h1 (hd n)
 unfold dW at h2
 cases hf:fndW ws n with
 | none=>rw [hf] at h2;simp [askL] at h2
 | some z=>
  rw [hf] at h2
  obtain ⟨e1,i,hi,e2⟩:=fnd_mem hf
  exact ⟨i,hi,by rw [e2];exact e1,by rw [e2];exact h2⟩
theorem c35 (a:Option Addr) (cap:Nat) (fs:List F2) (ms:List M3) (wa:Option Addr) (wc:Nat) (ws:List W8) (nm:ByteArray) (w:World) (hl:fs.length<=1048576) (hs:∀ i,(fs.getD i f2z).le 1048576) (hat:FilesAt w a fs) (ht:treeOk fs) (hp:IsPT fs ms) (hlw:ws.length<=300) (hws:WysAt w wa ws):
 Calls prog 35 #[.agg #[.slice a fs.length cap],.slice wa ws.length wc,.string nm] w fun e w'=>e=.returned (.agg #[.int .i64 (wrapW (knW fs ms ws nm)).code,.string (wrapW (knW fs ms ws nm)).tx])/\Below w.heap.size w w':=by
 have hB0:∀ o1 o2,Below w.heap.size w ((w.alloc o1).alloc o2):=fun o1 o2=>((Below.refl _ _).alloc (Nat.le_refl _) _).alloc (by simp) _
 have h24:=fun u (hb:Below w.heap.size w u)=>c55 a cap fs ms wa wc ws nm u hl hs (G.T.files_below hat hb) ht hp hlw (wys_below hws hb)
 clear hat hs hws
 obtain ⟨kn,HK⟩:∃ k,Hid (knW fs ms ws nm=k):=⟨_,rfl⟩
 rw [HK.out]
 go_enter func35,ntmps35
 go_wp2_with fail
 refine (h24 _ (hB0 _ _)).mono ?_
 rintro e w1 ⟨h1,hb1⟩
 have hB1:Below w.heap.size w w1:=(hB0 _ _).trans (hb1.mono (by simp;omega))
 have hx1:Below (w.heap.size+2) ((w.alloc (.cells #[.slice a fs.length cap] 30)).alloc (.cells #[.int .i64 0,.string ⟨#[]⟩] 53)) w1:=by have h:=hb1;simp at h;exact h
 obtain ⟨t0,⟨z0,z1⟩,y0,y1⟩:=G.rzU hx1
 have hz1:w.heap.size+1<w1.heap.size:=by have:=hx1.size;simp at this;omega
 clear hb1 h24 hx1 hB0
 rw [HK.out] at h1
 obtain ⟨⟨c,t⟩,b⟩:=kn
 have e':e=.returned (.tuple #[.agg #[.int .i64 c,.string t],.bool b]):=h1
 subst e'
 clear h1
 cases b
 · go_wp2
   have F:=G.set2_at' w1 (w.heap.size+1) (.int .i64 6) (.string ⟨#[]⟩) _ _ z0 z1
   have hBU:Below w.heap.size w ((w1.setCell ⟨w.heap.size+1,0,none⟩ (.int .i64 6)).setCell ⟨w.heap.size+1,1,none⟩ (.string ⟨#[]⟩)):=(hB1.setCell (by simp) _).setCell (by simp) _
   have hszU:w.heap.size+1<((w1.setCell ⟨w.heap.size+1,0,none⟩ (.int .i64 6)).setCell ⟨w.heap.size+1,1,none⟩ (.string ⟨#[]⟩)).heap.size:=by simpa using hz1
   generalize ((w1.setCell ⟨w.heap.size+1,0,none⟩ (.int .i64 6)).setCell ⟨w.heap.size+1,1,none⟩ (.string ⟨#[]⟩))=U at*
   have F1:=fun o=>(G.cell_al hszU 0 o).trans F.1
   have F2:=fun o=>(G.cell_al hszU 1 o).trans F.2
   refine bodyPost_ret (v:=.agg #[.int .i64 6,.string ⟨#[]⟩]) (by simp [results,Tryz.results35,go_sem,F1,F2]) rfl ⟨rfl,?_⟩
   exact hBU.alloc hBU.size _
 go_wp2
 have F:=G.set2_at' w1 (w.heap.size+1) (.int .i64 c) (.string t) _ _ z0 z1
 have hBU:Below w.heap.size w ((w1.setCell ⟨w.heap.size+1,0,none⟩ (.int .i64 c)).setCell ⟨w.heap.size+1,1,none⟩ (.string t)):=(hB1.setCell (by simp) _).setCell (by simp) _
 have hszU:w.heap.size+1<((w1.setCell ⟨w.heap.size+1,0,none⟩ (.int .i64 c)).setCell ⟨w.heap.size+1,1,none⟩ (.string t)).heap.size:=by simpa using hz1
 generalize ((w1.setCell ⟨w.heap.size+1,0,none⟩ (.int .i64 c)).setCell ⟨w.heap.size+1,1,none⟩ (.string t))=U at*
 have F1:=fun o=>(G.cell_al hszU 0 o).trans F.1
 have F2:=fun o=>(G.cell_al hszU 1 o).trans F.2
 refine bodyPost_ret (v:=.agg #[.int .i64 c,.string t]) (by simp [results,Tryz.results35,go_sem,F1,F2]) rfl ⟨rfl,?_⟩
 exact hBU.alloc hBU.size _
theorem c34 (wa:Option Addr) (wc:Nat) (ws:List W8) (nm:ByteArray) (w:World) (hlw:ws.length<=300) (hws:WysAt w wa ws) (hlv:∀ i,i<ws.length->∃ a n c,(ws.getD i w8z).lv=.slice a n c):
 Calls prog 34 #[.slice wa ws.length wc,.string nm] w fun e w'=>e=.returned (.tuple #[.agg ((fndW ws nm).getD w8z).vs.toArray,.bool (fndW ws nm).isSome])/\Below w.heap.size w w':=by
 obtain ⟨b,off,hc⟩:=wys_some hws
 have HC:=hidI hc
 have HL:=hidI hlv
 have HN:Hid ((∀ j,j<ws.length->(ws.getD j w8z).m.nm≠nm)->fndW ws nm=none):=fun h=>fnd_none h
 have HY:Hid (∀ k,k<ws.length->(∀ j,j<k->(ws.getD j w8z).m.nm≠nm)->(ws.getD k w8z).m.nm=nm->fndW ws nm=some (ws.getD k w8z)):=fun k hk h1 h2=>fnd_at hk h1 h2
 obtain ⟨U,hU⟩:∃ U,U=w.alloc (.cells #[.string ⟨#[]⟩,.string ⟨#[]⟩,.string ⟨#[]⟩,.slice none 0 0,.bool false,.int .i64 0,.string ⟨#[]⟩,.string ⟨#[]⟩] 69):=⟨_,rfl⟩
 have HU:=hidI hU
 have hBU:Below w.heap.size w U:=by rw [hU];exact (Below.refl _ _).alloc (Nat.le_refl _) _
 have CU:Hid (Cl U w.heap.size 69 z8):=by show Cl _ _ _ _;rw [hU];exact cl_new w _ 69
 clear hws hc hlv hU
 go_enter func34,ntmps34
 go_wp2_with fail
 go_loopw [6] (fun vi wr=>∃ k:Nat,k<=ws.length/\vi=.int .i64 k/\wr=U/\Hid (∀ j,j<k->(ws.getD j w8z).m.nm≠nm)) (fun vi _=>ws.length - (intOf vi).toNat)
 case atStart=>exact ⟨0,Nat.zero_le _,rfl,HU.out.symm,fun j h=>absurd h (Nat.not_lt_zero _)⟩
 obtain ⟨k,hk,rfl,rfl,hdone⟩:=hrel
 by_cases hlt:k<ws.length
 rotate_left
 · have HR:=hidI (HN.out (fun j hj=>hdone.out j (by omega)))
   clear HY HN hdone HL
   go_wp2_with (refine wl_stN rfl 69 _ _ rfl (B:=w.heap.size) (j:=0) rfl (vs:=z8) rfl CU.out (by simp [z8]) (by intro v hv;simp [z8] at hv;rcases hv with rfl | rfl | rfl | rfl | rfl <;> rfl) (by kernel_rfl) ?_;intro w5 hc5 ho5;have HC5:=hidI hc5;have HO5:=hidI ho5;clear hc5 ho5)
   refine bodyPost_ret (results_blk_tmp (P:=prog) (ty:=69) rfl _ _ w.heap.size _ _ rfl HC5.out.blk underlying69 rfl (by kernel_rfl)) rfl ?_
   exact ⟨by rw [HR.out];rfl,hBU.trans (HO5.out.below (Nat.le_refl _))⟩
 rcases HC.out with hss | ⟨ha,hbw,hcell⟩
 · rw [hss] at hlt;exact absurd hlt (Nat.not_lt_zero _)
 subst ha
 have g0:=(hBU.cell (p:=⟨b,off+k*8,none⟩) hbw).trans (hcell k hlt 0 _ rfl)
 have HX:Hid (∀ j v,(ws.getD k w8z).vs[j]?=some v->wr.cell? ⟨b,off+k*8+j,none⟩=some v):=fun j v e=>(hBU.cell (p:=⟨b,off+k*8+j,none⟩) hbw).trans (hcell k hlt j v e)
 obtain ⟨la,ln,lc,hlv⟩:=HL.out k hlt
 have HY':=hidI (HY.out k hlt hdone.out)
 have HD:Hid ((ws.getD k w8z).m.nm≠nm->∀ j,j<k+1->(ws.getD j w8z).m.nm≠nm):=fun h j hj=>by
  rcases Nat.lt_or_ge j k with h1 | h1
  · exact hdone.out j h1
  obtain rfl:j=k:=by omega
  exact h
 generalize ws.getD k w8z=x at*
 obtain ⟨⟨xn,xt,xa⟩,xl,xs,xo,xc,xx,xw⟩:=x
 dsimp only at*
 subst hlv
 clear hcell
 cases hq:(xn.toList==nm.toList)
 rotate_left
 · have hnm:xn=nm:=by
    have:=beq_iff_eq.1 hq
    rw [ByteArray.toList_eq,ByteArray.toList_eq] at this
    exact ByteArray.ext (Array.toList_inj.1 this)
   have HR:=hidI (HY'.out hnm)
   subst hnm
   clear HD HY' HY HN hdone HL
   go_wp2_with (first | (refine wl_val rfl (ex_ldN 69 _ rfl (B:=b) (j:=off+k*8) (cs:=[.string xn,.string xt,.string xa,.slice la ln lc,.bool xo,.int .i64 xc,.string xx,.string xw]) rfl HX.out underlying69 rfl (by kernel_rfl)) ?_) | (refine wl_stN rfl 69 _ _ rfl (B:=w.heap.size) (j:=0) rfl (vs:=[.string xn,.string xt,.string xa,.slice la ln lc,.bool xo,.int .i64 xc,.string xx,.string xw]) rfl CU.out (by simp [z8]) (by intro v hv;simp at hv;rcases hv with rfl | rfl | rfl | rfl | rfl | rfl | rfl | rfl <;> rfl) (by kernel_rfl) ?_;intro w5 hc5 ho5;have HC5:=hidI hc5;have HO5:=hidI ho5;clear hc5 ho5))
   refine bodyPost_ret (results_blk_tmp (P:=prog) (ty:=69) rfl _ _ w.heap.size _ _ rfl HC5.out.blk underlying69 rfl (by kernel_rfl)) rfl ?_
   exact ⟨by rw [HR.out];rfl,hBU.trans (HO5.out.below (Nat.le_refl _))⟩
 have hnm:xn≠nm:=fun e=>by rw [e] at hq;simp at hq
 have HD':=hidI (HD.out hnm)
 clear HD HY' HY HN hdone HL HX
 go_wp2
 go_roundw
 case rel=>exact ⟨k+1,by omega,by go_num,trivial,HD'⟩
 case measure=>simp [intOf];omega
end Go.Proofs.YthfmmimmfcnhmaaGreatDoor
namespace Go.Proofs.YthfmmimmfcnhmaaGreatDoor
open Go.RowKit
structure De where
 d:Dd
 lv:Value
def dez:De:=⟨⟨⟨#[]⟩,false,m3z,[],⟨0,⟨#[]⟩⟩,⟨#[]⟩⟩,.slice none 0 0⟩
def De.vs (x:De):List Value:=[.string x.d.nm,.bool x.d.md,.string x.d.m.nm,.string x.d.m.tl,.string x.d.m.ar,x.lv,.int .i64 x.d.r.code,.string x.d.r.tx]
def deC (xs:List De):List Value:=xs.flatMap De.vs
theorem de_len (x:De):x.vs.length=8:=rfl
theorem deC_len (xs:List De):(deC xs).length=xs.length*8:=by
 induction xs with
 | nil=>rfl
 | cons x r ih=>unfold deC at *;simp only [List.flatMap_cons,List.length_append,List.length_cons,de_len,ih];omega
theorem deC_snoc (xs:List De) (x:De):deC (xs++[x])=deC xs++x.vs:=by simp [deC]
theorem deC_get (xs:List De) (i j:Nat) (h:i<xs.length) (hj:j<8):(deC xs)[i*8+j]?=(xs.getD i dez).vs[j]?:=by
 induction xs generalizing i with
 | nil=>simp at h
 | cons x r ih=>
  show (x.vs++deC r)[i*8+j]?=_
  cases i with
  | zero=>rw [List.getElem?_append_left (by rw [de_len];omega)];simp
  | succ i=>
   rw [List.getElem?_append_right (by rw [de_len];omega),de_len]
   have:=ih i (by simpa using h)
   rw [show (i+1)*8+j - 8=i*8+j by omega]
   simpa using this
theorem de_one (x:De) (h:x.lv.oneCell'=true):∀ v∈x.vs,v.oneCell'=true:=by
 intro v hv
 simp only [De.vs,List.mem_cons,List.not_mem_nil,or_false] at hv
 rcases hv with rfl | rfl | rfl | rfl | rfl | rfl | rfl | rfl
 all_goals first | rfl | exact h
def DesAt (w:World) (a:Option Addr) (xs:List De):Prop:=xs=[]\/∃ b,a=some ⟨b,0,none⟩/\b<w.heap.size/\∀ i,i<xs.length->∀ j v,(xs.getD i dez).vs[j]?=some v->w.cell? ⟨b,i*8+j,none⟩=some v
theorem row_des {w:World} {base:Nat} {v:Value} {xs:List De} (h:w.ownsRow base 55 8 v xs.length (deC xs)):∃ a c,v=.slice a xs.length c/\DesAt w a xs:=by
 have h':=h
 rcases h.2 with ⟨hv,h0⟩ | ⟨g,cap,cur,hv,hg,hh,_⟩
 · exact ⟨none,0,by rw [hv,h0],.inl (List.length_eq_zero_iff.1 h0)⟩
 refine ⟨some ⟨g,0,none⟩,cap,hv,?_⟩
 subst hv
 refine .inr ⟨g,rfl,blk_lt hh,fun i hi j v e=>?_⟩
 have hj:j<8:=by have:=(List.getElem?_eq_some_iff.1 e).1;rwa [de_len] at this
 rw [h'.cellAt _ (by omega),deC_get xs i j hi hj]
 exact e
structure DRow (base:Nat) (v:Value) (xs:List De) (w:World):Prop where
 row:w.ownsRow base 55 8 v xs.length (deC xs)
 lk:∀ x∈xs,w.ownsRow base 98 4 x.lv x.d.ls.length (lkCells x.d.ls)
 ne:xs.Pairwise fun x y=>∀ k,x.lv.ownBlock=some k->y.lv.ownBlock≠some k
theorem row_slice {w:World} {base:Nat} {e:TypeId} {size n:Nat} {v:Value} {xs:List Value} (h:w.ownsRow base e size v n xs):∃ a c,v=.slice a n c:=by
 rcases h.2 with ⟨hv,h0⟩ | ⟨g,cap,cur,hv,_⟩
 · exact ⟨none,0,by rw [hv,h0]⟩
 exact ⟨_,_,hv⟩
theorem row_gr {w w':World} {base base':Nat} {e e':TypeId} {size size' n n':Nat} {v v':Value} {xs xs':List Value} (h:w.ownsRow base e size v n xs) (k:w.ownsRow base' e' size' v' n' xs') (hne:e≠e') (g:w.grownBy w' v'.ownBlock):w'.ownsRow base e size v n xs:=
 ownsRow_keep h fun j hj=>g.block j (h.lt j hj).2 (fun c=>by
  rcases G.own_ne h k hne with h1 | h1
  · rw [h1] at hj;cases hj
  exact h1 (hj.trans c))
theorem DRow.below {base:Nat} {v:Value} {xs:List De} {w w':World} (h:DRow base v xs w) (hb:Below w.heap.size w w'):DRow base v xs w':=
 ⟨ownsRow_below h.row hb,fun x hx=>ownsRow_below (h.lk x hx) hb,h.ne⟩
theorem DRow.keep {base:Nat} {v:Value} {xs:List De} {w w':World} (h:DRow base v xs w) (hv:∀ k,v.ownBlock=some k->w'.heap[k]?=w.heap[k]?) (hl:∀ x∈xs,∀ k,x.lv.ownBlock=some k->w'.heap[k]?=w.heap[k]?):DRow base v xs w':=
 ⟨ownsRow_keep h.row hv,fun x hx=>ownsRow_keep (h.lk x hx) (hl x hx),h.ne⟩
theorem DRow.snoc {base:Nat} {v v':Value} {xs:List De} {x:De} {w w':World} (h:DRow base v xs w) (hx:w.ownsRow base 98 4 x.lv x.d.ls.length (lkCells x.d.ls)) (hn:∀ y∈xs,∀ k,y.lv.ownBlock=some k->x.lv.ownBlock≠some k) (hr:w'.ownsRow base 55 8 v' (xs.length+1) (deC xs++x.vs)) (hg:w.grownBy w' v.ownBlock):DRow base v' (xs++[x]) w':=by
 refine ⟨by rw [deC_snoc,List.length_append];exact hr,fun y hy=>?_,List.pairwise_append.2 ⟨h.ne,List.pairwise_singleton _ _,fun y hy z hz=>?_⟩⟩
 · rcases List.mem_append.1 hy with hy | hy
   · exact row_gr (h.lk y hy) h.row (by decide) hg
   rw [List.mem_singleton.1 hy]
   exact row_gr hx h.row (by decide) hg
 rw [List.mem_singleton.1 hz];exact hn y hy
theorem inf55:Inf Tryz.prog 55 8:=inf_of (by kernel_rfl)
