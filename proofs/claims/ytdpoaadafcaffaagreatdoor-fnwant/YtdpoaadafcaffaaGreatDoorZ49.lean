import Derived.Laws.EntriesVeiled
import Derived.Test.YtdpoaadafcaffaaGreatDoorZ47
import Derived.Test.YtdpoaadafcaffaaGreatDoorZ46
set_option linter.unusedVariables false
set_option maxHeartbeats 8000000
set_option maxRecDepth 100000
namespace Go.Proofs.YtdpoaadafcaffaaGreatDoor
open Proofs.Tryz
open Go.RowKit
open G (Q6)
open G.T (F2 L6 Y3 U3)
structure Rx (f:Fx) (E:Env):Prop where
 ten:10<=f.base
 RP:Z5 f.w0
 mx:N8 f.w0
 fa:U3 f.w0 f.ta f.fs
 tr:Y3 f.fs
 pt:Q6 f.fs f.ms
 hE:E=o7 f.fs f.ms
def IE (g g':Gh) (m:M3) (i:Nat) (x:Ru):Prop:=
 (g.rs[i]?=some x/\x.k.m.nm=m.nm/\g'.rs=g.rs/\g'.q=g.q)\/
 (i=g.rs.length/\(∀ (j:Nat) y,g.rs[j]?=some y->y.k.m.nm≠m.nm)/\g'.rs=g.rs++[x]/\g'.q=g.q++[.go i]/\x.k.m=m/\x.ls=[]/\x.st=false/\x.wl=[]/\x.GL=.iM/\x.r=⟨6,⟨#[]⟩⟩)
section
variable {P:Program}
theorem qp {o:Oper} {a:Act} {w:World} (t:TypeId) (x y:Operand) (ok:Bool) (ho:o.op=.lookup t x y ok) {v z u:Value} (hx:a.eval x=v) (hy:a.eval y=z) (hr:(Instr.lookup t v z ok).run P w=.ok u w):(execOp a.eval o).run P w=.ok (.value u) w:=by
 unfold execOp;simp only [ho,hx,hy,Sem.run_bind,hr,Result.andThen_ok,Sem.run_pure]
end
theorem Cl.gb {w w':World} {b:Nat} {t:TypeId} {xs:List Value} {row:Option Nat} (h:Cl w b t xs) (hg:w.grownBy w' row) (hne:some b≠row):Cl w' b t xs:=(hg.block b h.lt hne).trans h
def kv (p:Option Value):Value:=.tuple #[p.getD (.pointer none),.bool p.isSome]
theorem pG {w:World} {b n:Nat} {l:List (ByteArray×Value)} {k:ByteArray} (h:w.ownsMap prog 9 Z8 b n (mapD l)) (hk:k.size<=maxLen):(Instr.lookup 86 (.map (some b)) (.string k) true).run prog w=.ok (kv (U9 l k)) w:=Yw h underlying86 (Tryz.zeroValue93 w) hk
theorem sH {w w':World} {b:Nat} (h:w.grownBy w' (some b)):Ex (fun k=>k=b) w w':=⟨h.os,h.tape,h.output,h.size,fun k hk hn=>h.block k hk (fun e=>hn (Option.some.inj e))⟩
theorem Ex.trans' {w u w':World} {b:Nat} (h:Ex (fun k=>k=b) w u) (hg:u.grownBy w' (some b)):Ex (fun k=>k=b) w w':=h.trans (sH hg)
theorem Dv {l:List (ByteArray×Value)} {k:ByteArray} {v:Value} {w:World} {b n:Nat} (h:w.ownsMap prog 9 Z8 b n ((mapD l).put (kS k) (.held v))):w.ownsMap prog 9 Z8 b (Mf (k,v) (l.filter fun p=>!decide (p.1=k))).length (mapD (Mf (k,v) (l.filter fun p=>!decide (p.1=k)))):=by
 rw [Sw] at h;have:=TA h
 rwa [Uw] at this
theorem Sc {α:Type}:∀ {l l':List α},l.Nodup->(∀ x∈l,x∈l')->l.length<=l'.length
 | [],_,_,_=>Nat.zero_le _
 | a::l,l',hn,hs=>by
  obtain ⟨p,q,rfl⟩:=List.append_of_mem (hs a (List.mem_cons_self ..));have hn':=List.nodup_cons.1 hn;have:=Sc (l:=l) (l':=p++q) hn'.2 (fun x hx=>by
   have:=hs x (List.mem_cons_of_mem _ hx);rw [List.mem_append,List.mem_cons] at this;rw [List.mem_append];rcases this with h | rfl | h
   · exact .inl h
   · exact absurd hx hn'.1
   exact .inr h)
  simp at this ⊢;omega
theorem sw {l:List (ByteArray×Value)} {rs:List Ru} (ha:Asc l) (h:∀ n,U9 l n≠none->∃ (i:Nat) (x:Ru),rs[i]?=some x/\x.k.m.nm=n):l.length<=rs.length:=by
 have h1:(l.map (·.1)).Nodup:=by
  rw [List.nodup_iff_pairwise_ne,List.pairwise_map];exact ha.imp fun {p q} hb e=>by rw [e,dw] at hb;cases hb
 have:=Sc h1 (l':=rs.map (·.k.m.nm)) (fun n hn=>by
  obtain ⟨p,hp,rfl⟩:=List.mem_map.1 hn;obtain ⟨i,x,hx,e⟩:=h p.1 (by rw [Pm ha (v:=p.2) hp];simp);exact List.mem_map.2 ⟨x,List.mem_of_getElem? hx,e⟩)
 simpa using this
theorem XJ (f:Fx) (E:Env) (hf:Rx f E) (g:Gh) (m:M3) (w:World) (hs:U_ f g w) (hm:m.nm.size<=20) (hrl:g.rs.length<=1000) (YQ:g.q.length<=1000):
 Calls prog 42 #[pt f.kb,.agg #[.string m.nm,.string m.tl,.string m.ar]] w fun e w'=>∃ (g':Gh) (i:Nat) (x:Ru),e=.returned (pt x.k.B)/\U_ f g' w'/\IE g g' m i x/\g'.rs[i]?=some x/\Below f.base w w'/\∀ k,k<w.heap.size->g.ow k=none->w'.heap[k]?=w.heap[k]?/\g'.ow k=none:=by
 have hnl:m.nm.size<=maxLen:=by unfold maxLen;omega
 have JL:=Q0 hs;obtain ⟨w1,hw1⟩:∃ u:World,u=(w.alloc (.cells #[pt f.kb] 55)).alloc (.cells #[.string m.nm,.string m.tl,.string m.ar] 35):=⟨_,rfl⟩;have hb1:Below w.heap.size w w1:=by rw [hw1];exact bA.alloc U0 _
 have NL:=Q0 (hs.grow hb1);have C2:Hid (Cl w1 w.heap.size 55 [pt f.kb]):=by show Cl _ _ _ _;rw [hw1];exact B_ (F3 w [pt f.kb] 55) _
 have C3:Hid (Cl w1 (w.heap.size+1) 35 [.string m.nm,.string m.tl,.string m.ar]):=by
  have:=F3 (w.alloc (.cells #[pt f.kb] 55)) [.string m.nm,.string m.tl,.string m.ar] 35;simp only [World.size_alloc] at this;show Cl _ _ _ _;rw [hw1];exact this
 have hz1:w1.heap.size=w.heap.size+2:=by rw [hw1];simp
 have HZ1:=Q0 hz1;have HW1:=Q0 hw1;clear hs hw1 hz1;obtain ⟨kp,zP⟩:∃ k,Hid (U9 g.lr m.nm=k):=⟨_,rfl⟩;obtain ⟨pv,bb,HKV⟩:∃ p b,Hid (kv (U9 g.lr m.nm)=.tuple #[p,.bool b]):=⟨_,_,rfl⟩;have eT:Hid (pv=(U9 g.lr m.nm).getD (.pointer none)/\bb=(U9 g.lr m.nm).isSome):=by
  have:=HKV.out;unfold kv at this;injection this with this;simp at this;exact ⟨this.1.symm,this.2.symm⟩
 go_enter func42,ntmps42;rw [show pt f.kb=.pointer (some ⟨f.kb,0,none⟩) from rfl]
 go_upto_region 1 with fail
 rw [show ((w.alloc (.cells #[.pointer (some ⟨f.kb,0,none⟩)] 55)).alloc (.cells #[.string m.nm,.string m.tl,.string m.ar] 35))=w1 from HW1.out.symm];refine wp_region_held_drew (S:=fun u=>Cl u w.heap.size 55 [pt f.kb]/\Cl u (w.heap.size+1) 35 [.string m.nm,.string m.tl,.string m.ar]/\Cl u f.kb 90 (b_ f g.rv)/\u.ownsMap prog 9 Z8 f.mr g.lr.length (mapD g.lr)) I1 ?_ fun hH=>?_
 · exact ⟨C2.out,C3.out,NL.out.kb,NL.out.mr⟩
 refine tq 0 hH ?_ (v:=?_) (hv:=?e)
 case e=>intro wq hSw;(try dsimp only at hSw);obtain ⟨s1,s2,s3,s4⟩:=hSw;have d1:wq.cell? ⟨w.heap.size,0,none⟩=some (.pointer (some ⟨f.kb,0,none⟩)):=s1.cell 0;have d2:wq.cell? ⟨w.heap.size+1,0,none⟩=some (.string m.nm):=s2.cell 0;have d3:wq.cell? ⟨f.kb,2,none⟩=some (.map (some f.mr)):=s3.cell 2;go_simp;try with_reducible rfl
 refine tq 1 hH ?_;refine tq 2 hH ?_;refine tq 3 hH ?_ (v:=?_) (hv:=?e)
 case e=>intro wq hSw;(try dsimp only at hSw);obtain ⟨s1,s2,s3,s4⟩:=hSw;have d1:wq.cell? ⟨w.heap.size,0,none⟩=some (.pointer (some ⟨f.kb,0,none⟩)):=s1.cell 0;have d2:wq.cell? ⟨w.heap.size+1,0,none⟩=some (.string m.nm):=s2.cell 0;have d3:wq.cell? ⟨f.kb,2,none⟩=some (.map (some f.mr)):=s3.cell 2;go_simp;try with_reducible rfl
 refine tq 4 hH ?_;refine tq 5 hH ?_ (v:=?_) (hv:=?e)
 case e=>intro wq hSw;(try dsimp only at hSw);obtain ⟨s1,s2,s3,s4⟩:=hSw;have d1:wq.cell? ⟨w.heap.size,0,none⟩=some (.pointer (some ⟨f.kb,0,none⟩)):=s1.cell 0;have d2:wq.cell? ⟨w.heap.size+1,0,none⟩=some (.string m.nm):=s2.cell 0;have d3:wq.cell? ⟨f.kb,2,none⟩=some (.map (some f.mr)):=s3.cell 2;go_simp;try with_reducible rfl
 try simp only [qq]
 refine tk (i:=6) (oi:=⟨some 18,.lookup 86 (.tmp 15) (.tmp 17) true,144,_,_,none⟩) (v:=.tuple #[pv,.bool bb]) rfl I1 rfl ?e hH ?_
 case e=>intro wq hSw;exact qp 86 _ _ true rfl (v:=.map (some f.mr)) (z:=.string m.nm) rfl rfl ((pG hSw.2.2.2 hnl).trans (by rw [HKV.out]))
 refine tq 7 hH ?_;refine tq 8 hH ?_;refine tq 9 hH ?_;refine tq 10 hH ?_;refine tq 11 hH ?_
 try simp only [qq]
 refine wpAnyH_done I1 ?_ _;obtain ⟨x1,hx1⟩:∃ x:World,x=w1.drew:=⟨_,rfl⟩;rw [<- hx1];have hbx:Below w1.heap.size w1 x1:=by rw [hx1];exact (Below.refl _ w1).drew
 have HSX:=Q0 (NL.out.grow hbx);have C2x:=Q0 (C2.out.below hbx C2.out.lt);have oZ:=Q0 (C3.out.below hbx C3.out.lt);have hzx:w.heap.size+2<=x1.heap.size:=by rw [hx1];exact Nat.le_of_eq HZ1.out.symm
 have hBx:=hb1.trans (hbx.mono (by have:=HZ1.out;omega));clear hx1 hbx NL C2 C3 hH HW1 hb1;cases bb;rotate_left
 · obtain ⟨i,x,hix,hpx,hnx⟩:∃ (i:Nat) (x:Ru),g.rs[i]?=some x/\pv=pt x.k.B/\x.k.m.nm=m.nm:=by
    have h2:=eT.out.2
    cases h:U9 g.lr m.nm with
    | none=>rw [h] at h2;cases h2
    | some p=>
     obtain ⟨i,x,hx,hn⟩:=HSX.out.only m.nm (by rw [h];simp);have hk:=HSX.out.key i x hx;rw [hn] at hk;exact ⟨i,x,hx,by rw [eT.out.1,hk];rfl,hn⟩
   subst hpx;clear HKV eT zP;have HIX:=Q0 hix;have TT:=Q0 hnx;clear hix hnx;go_wp2;go_ret;exact ⟨g,i,x,rfl,HSX.out,.inl ⟨HIX.out,TT.out,rfl,rfl⟩,HIX.out,hBx.mono JL.out.sz,fun k hk he=>⟨hBx.block k hk,he⟩⟩
 have HNK:Hid (U9 g.lr m.nm=none):=by
  have:=eT.out.2
  cases h:U9 g.lr m.nm with
  | none=>rfl
  | some p=>rw [h] at this;cases this
 clear HKV eT zP;have d0:x1.cell? ⟨w.heap.size+1,0,none⟩=some (.string m.nm):=oZ.out.cell 0;have d1:x1.cell? ⟨w.heap.size+1,1,none⟩=some (.string m.tl):=oZ.out.cell 1;have d2:x1.cell? ⟨w.heap.size+1,2,none⟩=some (.string m.ar):=oZ.out.cell 2
 go_upto_region 5 with fail
 obtain ⟨w2,hw2⟩:∃ u:World,u=(x1.alloc (.cells #[.string m.nm,.bool true,.string m.nm,.string m.tl,.string m.ar,.slice none 0 0,.int .i64 6,.string ⟨#[]⟩,.string ⟨#[]⟩] 96)).alloc (.cells #[.pointer (some ⟨x1.heap.size,0,none⟩)] 93):=⟨_,rfl⟩;rw [<- hw2];have hb2:Below x1.heap.size x1 w2:=by rw [hw2];exact bA.alloc U0 _
 have CB:Hid (Cl w2 x1.heap.size 96 [.string m.nm,.bool true,.string m.nm,.string m.tl,.string m.ar,.slice none 0 0,.int .i64 6,.string ⟨#[]⟩,.string ⟨#[]⟩]):=by show Cl _ _ _ _;rw [hw2];exact B_ (F3 x1 _ 96) _
 have C7:Hid (Cl w2 (x1.heap.size+1) 93 [pt x1.heap.size]):=by
  have:=F3 (x1.alloc (.cells #[.string m.nm,.bool true,.string m.nm,.string m.tl,.string m.ar,.slice none 0 0,.int .i64 6,.string ⟨#[]⟩,.string ⟨#[]⟩] 96)) [pt x1.heap.size] 93;simp only [World.size_alloc] at this;show Cl _ _ _ _;rw [hw2];exact this
 have HS2:=Q0 (HSX.out.grow hb2);have lY:=Q0 (C2x.out.below hb2 C2x.out.lt);have C3y:=Q0 (oZ.out.below hb2 oZ.out.lt);have hB2:=hBx.trans (hb2.mono O0);clear hw2 hb2 HSX C2x oZ d0 d1 d2;refine wp_region_held_drew (S:=fun u=>Cl u w.heap.size 55 [pt f.kb]/\Cl u (w.heap.size+1) 35 [.string m.nm,.string m.tl,.string m.ar]/\Cl u f.kb 90 (b_ f g.rv)/\Cl u (x1.heap.size+1) 93 [pt x1.heap.size]) I1 ?_ fun hH=>?_
 · exact ⟨lY.out,C3y.out,HS2.out.kb,C7.out⟩
 obtain ⟨x2,hx2⟩:∃ x:World,x=w2.drew:=⟨_,rfl⟩;rw [<- hx2] at hH ⊢;have TL:Below w2.heap.size w2 x2:=by rw [hx2];exact (Below.refl _ w2).drew
 have gM:=Q0 (HS2.out.grow TL);have C2z:=Q0 (lY.out.below TL lY.out.lt);have C3z:=Q0 (C3y.out.below TL C3y.out.lt);have CBz:=Q0 (CB.out.below TL CB.out.lt);have C7z:=Q0 (C7.out.below TL C7.out.lt);have hBx2:=bT hB2 TL;clear hx2 TL lY C3y CB C7 HS2 hB2;refine tq 0 hH ?_ (v:=?_) (hv:=?e)
 case e=>intro wq hSw;(try dsimp only at hSw);obtain ⟨s1,s2,s3,s4⟩:=hSw;have d1:wq.cell? ⟨w.heap.size,0,none⟩=some (.pointer (some ⟨f.kb,0,none⟩)):=s1.cell 0;have d2:wq.cell? ⟨w.heap.size+1,0,none⟩=some (.string m.nm):=s2.cell 0;have d3:wq.cell? ⟨f.kb,2,none⟩=some (.map (some f.mr)):=s3.cell 2;have d4:wq.cell? ⟨x1.heap.size+1,0,none⟩=some (.pointer (some ⟨x1.heap.size,0,none⟩)):=s4.cell 0;go_simp;try with_reducible rfl
 refine tq 1 hH ?_;refine tq 2 hH ?_;refine tq 3 hH ?_ (v:=?_) (hv:=?e)
 case e=>intro wq hSw;(try dsimp only at hSw);obtain ⟨s1,s2,s3,s4⟩:=hSw;have d1:wq.cell? ⟨w.heap.size,0,none⟩=some (.pointer (some ⟨f.kb,0,none⟩)):=s1.cell 0;have d2:wq.cell? ⟨w.heap.size+1,0,none⟩=some (.string m.nm):=s2.cell 0;have d3:wq.cell? ⟨f.kb,2,none⟩=some (.map (some f.mr)):=s3.cell 2;have d4:wq.cell? ⟨x1.heap.size+1,0,none⟩=some (.pointer (some ⟨x1.heap.size,0,none⟩)):=s4.cell 0;go_simp;try with_reducible rfl
 refine tq 4 hH ?_;refine tq 5 hH ?_ (v:=?_) (hv:=?e)
 case e=>intro wq hSw;(try dsimp only at hSw);obtain ⟨s1,s2,s3,s4⟩:=hSw;have d1:wq.cell? ⟨w.heap.size,0,none⟩=some (.pointer (some ⟨f.kb,0,none⟩)):=s1.cell 0;have d2:wq.cell? ⟨w.heap.size+1,0,none⟩=some (.string m.nm):=s2.cell 0;have d3:wq.cell? ⟨f.kb,2,none⟩=some (.map (some f.mr)):=s3.cell 2;have d4:wq.cell? ⟨x1.heap.size+1,0,none⟩=some (.pointer (some ⟨x1.heap.size,0,none⟩)):=s4.cell 0;go_simp;try with_reducible rfl
 refine tq 6 hH ?_ (v:=?_) (hv:=?e)
 case e=>intro wq hSw;(try dsimp only at hSw);obtain ⟨s1,s2,s3,s4⟩:=hSw;have d1:wq.cell? ⟨w.heap.size,0,none⟩=some (.pointer (some ⟨f.kb,0,none⟩)):=s1.cell 0;have d2:wq.cell? ⟨w.heap.size+1,0,none⟩=some (.string m.nm):=s2.cell 0;have d3:wq.cell? ⟨f.kb,2,none⟩=some (.map (some f.mr)):=s3.cell 2;have d4:wq.cell? ⟨x1.heap.size+1,0,none⟩=some (.pointer (some ⟨x1.heap.size,0,none⟩)):=s4.cell 0;go_simp;try with_reducible rfl
 try simp only [qq]
 refine rq 7 fun K hK=>?_;refine Et rfl 86 _ _ _ rfl (b:=f.mr) (n:=g.lr.length) (l:=g.lr) (k:=m.nm) (vv:=pt x1.heap.size) rfl rfl rfl gM.out.mr underlying86 (by have:=sw JL.out.ar JL.out.only;unfold maxLen;omega) hnl rfl ?_;intro w3 hm3 hg3;have hmr:=I6 JL.out.mr;have fT:∀ k,w.heap.size<=k->some k≠some f.mr:=fun k h e=>by have:=Option.some.inj e;omega
 have C2a:=Q0 (C2z.out.gb hg3 (fT _ Q8));have mY:=Q0 (C3z.out.gb hg3 (fT _ O0));have CBa:=Q0 (CBz.out.gb hg3 (fT _ O0));have C7a:=Q0 (C7z.out.gb hg3 (fT _ O0));have HM3:=Q0 (Dv hm3);have HEX:Hid (Ex (fun k=>k=f.mr) w w3):=Q0 ((Ex.SG hBx2).trans' hg3);have hz3:=Nat.lt_of_lt_of_le C7z.out.lt hg3.size;have a0H:=Cf (gM.out.kb.cell 0) (Ee gM.out.mr).choose_spec.choose_spec;have iT:=Q0 ((hg3.block _ gM.out.kb.lt (fun e=>a0H (Option.some.inj e))).trans gM.out.kb);clear hH;refine hK.out _ _ ?_ fun hH=>?_
 · exact ⟨C2a.out,mY.out,iT.out,C7a.out⟩
 clear hK K hH hm3 hg3 C2z C3z CBz C7z gM fT iT a0H hBx2
 try simp only [qq]
 refine wpAnyH_done I1 ?_ _;have d0:w3.cell? ⟨w.heap.size+1,0,none⟩=some (.string m.nm):=mY.out.cell 0;have d1:w3.cell? ⟨w.heap.size+1,1,none⟩=some (.string m.tl):=mY.out.cell 1;have d2:w3.cell? ⟨w.heap.size+1,2,none⟩=some (.string m.ar):=mY.out.cell 2
 go_wp2_with fail
 refine (iK m.nm m.tl m.ar w3).mono ?_;rintro e w4 ⟨rfl,hb4⟩;clear d0 d1 d2
 go_upto_region 7 with fail
 have hb3:Below w3.heap.size w3 w4:=hb4;obtain ⟨w5,pO⟩:∃ u:World,u=w4.alloc (.cells #[.bool false,.int .i64 0,.string ⟨#[]⟩,.bool false,.string m.tl,.int .i64 0] 42):=⟨_,rfl⟩;rw [<- pO];have hb5:Below w3.heap.size w3 w5:=by rw [pO];exact hb4.alloc hb4.size _
 have C8:Hid (Y7 w5 w4.heap.size (tn m [])):=by show Y7 _ _ _;rw [pO];exact heap_alloc_new w4 _
 have C2b:=Q0 (C2a.out.below hb5 C2a.out.lt);have qZ:=Q0 (mY.out.below hb5 mY.out.lt);have CBb:=Q0 (CBa.out.below hb5 CBa.out.lt);have C7b:=Q0 (C7a.out.below hb5 C7a.out.lt);have zN:w3.heap.size<=w4.heap.size:=hb4.size;have IQ:w4.heap.size<w5.heap.size:=C8.out.lt;have OQ:Hid (Ex (fun k=>k=f.mr) w w5):=Q0 (HEX.out.Mh (hb5.mono HEX.out.size));have HM5:=Q0 (U5 HM3.out hb5 (I6 HM3.out));have d0:w5.cell? ⟨w.heap.size+1,0,none⟩=some (.string m.nm):=qZ.out.cell 0;have d1:w5.cell? ⟨w.heap.size+1,1,none⟩=some (.string m.tl):=qZ.out.cell 1;have d2:w5.cell? ⟨w.heap.size+1,2,none⟩=some (.string m.ar):=qZ.out.cell 2;clear pO hb5 hb4 hb3 C2a mY CBa C7a HEX HM3
 go_wp2_with fail
 refine (c28 m.nm m.tl m.ar w5).mono ?_;rintro e w6 ⟨b0,b1,b2,b3,rfl,hrw,hb6⟩;clear d0 d1 d2
 go_upto_region 8 with fail
 obtain ⟨w7,hw7⟩:∃ u:World,u=w6.alloc (.cells #[.func (.func 51) #[] #[.pointer (some ⟨b0,0,none⟩),.pointer (some ⟨b1,0,none⟩),.pointer (some ⟨b2,0,none⟩),.pointer (some ⟨b3,0,none⟩)]] 64):=⟨_,rfl⟩;rw [<- hw7];have MN:Below w6.heap.size w6 w7:=by rw [hw7];exact bA
 have C9:Hid (Cl w7 w6.heap.size 64 [.func (.func 51) #[] #[pt b0,pt b1,pt b2,pt b3]]):=by show Cl _ _ _ _;rw [hw7];exact F3 w6 _ 64
 have dP:=bT hb6 MN;have HRW:=Q0 (hrw.below MN);have C2c:=Q0 (C2b.out.below dP C2b.out.lt);have C3c:=Q0 (qZ.out.below dP qZ.out.lt);have CBc:=Q0 (CBb.out.below dP CBb.out.lt);have C7c:=Q0 (C7b.out.below dP C7b.out.lt);have C8c:Hid (Y7 w7 w4.heap.size (tn m [])):=Q0 (C8.out.below dP C8.out.lt);have IW:Hid (Ex (fun k=>k=f.mr) w w7):=Q0 (OQ.out.Mh (dP.mono OQ.out.size));have HM7:=Q0 (U5 HM5.out dP (I6 HM5.out));have FO:w5.heap.size<=w6.heap.size:=hb6.size;have hz7:w6.heap.size<w7.heap.size:=C9.out.lt;clear hw7 MN hb6 dP hrw C2b qZ CBb C7b C8 OQ HM5
 go_upto_region 10 with fail
 obtain ⟨w8,hw8⟩:∃ u:World,u=w7.alloc (.cells #[.func (.func 78) #[] #[.pointer (some ⟨x1.heap.size+1,0,none⟩),.pointer (some ⟨w4.heap.size,0,none⟩),.pointer (some ⟨w6.heap.size,0,none⟩),.pointer (some ⟨w.heap.size,0,none⟩),.pointer (some ⟨w7.heap.size,0,none⟩)]] 145):=⟨_,rfl⟩;rw [<- hw8];have fO:Below w7.heap.size w7 w8:=by rw [hw8];exact bA
 obtain ⟨x,LU⟩:∃ x:Ru,Hid (x=⟨⟨m,x1.heap.size,x1.heap.size+1,w4.heap.size,w6.heap.size,w.heap.size,w7.heap.size,b0,b1,b2,b3⟩,[],.slice none 0 0,.slice none 0 0,.slice none 0 0,.slice none 0 0,false,⟨#[]⟩,⟨6,⟨#[]⟩⟩,.iM,[]⟩):=⟨_,rfl⟩;have dO:Hid (Cl w8 w7.heap.size 145 [x.k.go]):=by show Cl _ _ _ _;rw [hw8,LU.out];exact F3 w7 _ 145
 have C2d:=Q0 (C2c.out.below fO C2c.out.lt);have C7d:=Q0 (C7c.out.below fO C7c.out.lt);have hsb:=JL.out.sz;have yU:Hid (Ia f.base f.kb x (tn x.k.m x.ls) (Xc x.k.m x.ls) w8):=by
  have hr:=HRW.out.below fO;have MU:f.base<=w5.heap.size:=O0;rw [LU.out] at dO ⊢;exact ⟨CBc.out.below fO CBc.out.lt,C7d.out,C8c.out.below fO C8c.out.lt,C9.out.below fO C9.out.lt,C2d.out,dO.out,⟨Nat.le_trans MU hr.PQ,Nat.le_trans MU hr.VN,Nat.le_trans MU hr.QQ,Nat.le_trans MU hr.aS,hr.h0,hr.h1,hr.h2,hr.h3,World.ownsRow_nil _ _ _ _,World.ownsRow_nil _ _ _ _⟩,World.ownsRow_nil _ _ _ _⟩
 have hpk:=Es JL.out.ar m.nm (pt x1.heap.size);have rZ:Hid (Ex (fun k=>k=f.mr) w w8):=Q0 (IW.out.Mh (fO.mono IW.out.size));have HFP:Hid (∀ k,zq x k->w.heap.size<=k):=by
  have hr:=HRW.out;intro k hk;rw [LU.out] at hk;rcases hk with hk | hk | hk | hk
  · simp only [List.mem_cons,List.not_mem_nil,or_false] at hk
    rcases hk with rfl | rfl | rfl | rfl | rfl | rfl | rfl | rfl | rfl | rfl
    all_goals first | omega | (have:=hr.PQ;omega) | (have:=hr.VN;omega) | (have:=hr.QQ;omega) | (have:=hr.aS;omega)
  · cases hk
  · cases hk
  cases hk
 have HG1:Hid (U_ f { g with ow:=ext g.ow w.heap.size (.run g.rs.length),rs:=g.rs++[x],lr:=Mf (m.nm,pt x1.heap.size) (g.lr.filter fun p=>!decide (p.1=m.nm)) } w8):=by
  have h1:=JL.out.ext w.heap.size Q8 (.run g.rs.length);refine h1.new (x:=x) (by rw [LU.out];exact HNK.out) (rZ.out.mono fun k hk e=>?_) (U5 HM7.out fO (I6 HM7.out)) hpk.1 (fun n=>?_) yU.out (fun k hk=>mh (HFP.out k hk)) (by rw [LU.out]) (by rw [LU.out])
  · show ext g.ow w.heap.size _ k=_
    rw [J7 hk,e];exact JL.out.YM
  rw [hpk.2 n,LU.out]
 have VZ:Hid (Below f.base w w8):=Q0 (rZ.out.below (fun k e=>by rw [e];exact JL.out.rM _ _ JL.out.YM) hsb);have a2D:Hid (∀ u,Below w8.heap.size w8 u->V7 u f.base 1 g.rv (g.q.map (It.v g.ks))):=fun u hb=>by
  have h8:Below w.heap.size w w8\/True:=.inr trivial;refine JL.out.rd.keep fun k e hl=>?_;have hx:=rZ.out.block k hl (fun e2=>by
   have:=JL.out.ord k e;rw [e2,JL.out.YM] at this;cases this)
  exact (hb.block k (by have:=rZ.out.size;omega)).trans hx
 have hz8:w7.heap.size<w8.heap.size:=dO.out.lt;clear hw8 fO C2c C3c CBc C7c C8c C9 HRW IW HM7;refine P7 (S:=fun u=>Cl u w.heap.size 55 [pt f.kb]/\Cl u f.kb 90 (b_ f g.rv)) 10 I1 ?_ fun hH=>?_
 · exact ⟨C2d.out,HG1.out.kb⟩
 obtain ⟨y0,hy0⟩:∃ x:World,x=w8.drew:=⟨_,rfl⟩;rw [<- hy0] at hH ⊢;have hby:Below w8.heap.size w8 y0:=by rw [hy0];exact (Below.refl _ w8).drew
 have SL:=Q0 hby
 have HGY:=Q0 (HG1.out.grow hby);have C7y:=Q0 (C7d.out.below hby C7d.out.lt);have lY:=Q0 (C2d.out.below hby C2d.out.lt);have zy:w8.heap.size<=y0.heap.size:=hby.size;have IM:Hid (Below f.base w y0):=Q0 (VZ.out.trans (hby.mono (by have:=JL.out.sz;have:=VZ.out.size;omega)));clear hy0 hby
 refine lq 0 hH ?_ (v:=?_) (hv:=?e)
 case e=>intro wq hSw;(try dsimp only at hSw);have d1:wq.cell? ⟨w.heap.size,0,none⟩=some (.pointer (some ⟨f.kb,0,none⟩)):=hSw.1.cell 0;have d3:wq.cell? ⟨f.kb,4,none⟩=some g.rv:=hSw.2.cell 4;go_simp;try with_reducible rfl
 try simp only [qq]
 refine lq 1 hH ?_ (v:=?_) (hv:=?e)
 case e=>intro wq hSw;(try dsimp only at hSw);have d1:wq.cell? ⟨w.heap.size,0,none⟩=some (.pointer (some ⟨f.kb,0,none⟩)):=hSw.1.cell 0;have d3:wq.cell? ⟨f.kb,4,none⟩=some g.rv:=hSw.2.cell 4;go_simp;try with_reducible rfl
 try simp only [qq]
 refine lq 2 hH ?_
 try simp only [qq]
 refine lq 3 hH ?_
 try simp only [qq]
 refine lq 4 hH ?_ (v:=?_) (hv:=?e)
 case e=>intro wq hSw;(try dsimp only at hSw);have d1:wq.cell? ⟨w.heap.size,0,none⟩=some (.pointer (some ⟨f.kb,0,none⟩)):=hSw.1.cell 0;have d3:wq.cell? ⟨f.kb,4,none⟩=some g.rv:=hSw.2.cell 4;go_simp;try with_reducible rfl
 try simp only [qq]
 refine lq 5 hH ?_
 try simp only [qq]
 refine lr (i:=6) (o:=⟨some 48,.buildSlice 88 1 #[(0,.tmp 47)],88,_,_,none⟩) rfl J3 I1 fun K hK=>?_;go_simp;obtain ⟨y1,hy1⟩:∃ x:World,x=y0.alloc (.cells #[.func (.func 81) #[] #[.pointer (some ⟨w.heap.size,0,none⟩),.pointer (some ⟨x1.heap.size+1,0,none⟩),.pointer (some ⟨w4.heap.size,0,none⟩),.pointer (some ⟨w7.heap.size,0,none⟩)]] 1):=⟨_,rfl⟩;rw [<- hy1];have RL:Below y0.heap.size y0 y1:=by rw [hy1];exact bA
 have HIT:Hid (y1.cell? ⟨y0.heap.size,0,none⟩=some x.k.be):=by show _=_;rw [hy1,LU.out];exact (F3 y0 [_] 1).cell 0
 have HGZ:=Q0 (HGY.out.grow RL);have a2E:=Q0 (a2D.out y1 (bT SL.out RL));have C2z:=Q0 (lY.out.below RL lY.out.lt);have C7z:=Q0 (C7y.out.below RL C7y.out.lt);clear hy1 hH;refine hK.out _ _ ?_ fun hH=>?_
 · exact ⟨C2z.out,HGZ.out.kb⟩
 clear hK K
 try simp only [qq]
 refine lr (i:=7) (o:=⟨some 49,.call ⟨.builtin .append,#[.tmp 46,.tmp 48],#[88,88]⟩,88,_,_,none⟩) rfl J3 I1 fun K hK=>?_;refine sG rfl _ _ 88 rfl f.base 1 underlying88 iI g.rv (g.q.map (It.v g.ks)) rfl a2E.out ⟨y0.heap.size,0,none⟩ x.k.be rfl HIT.out rfl X3 HGZ.out.sz ?_;intro rv' y2 O2 g2 at2;have hro:∀ k,g.rv.ownBlock=some k->k<w8.heap.size/\g.ow k=some .rd:=fun k e=>by
  obtain ⟨_,cur,hc⟩:=JL.out.rd.lt e;have:=(Array.getElem?_eq_some_iff.1 hc).1;have:=VZ.out.size;exact ⟨O0,JL.out.ord k e⟩
 have eP:Hid (Cl y2 f.kb 90 (b_ f g.rv)):=Q0 (HGZ.out.kb.gb g2 (fun e=>by
  have:=(hro f.kb e.symm).2;rw [JL.out.jM] at this;cases this))
 have ZQ:Hid (Cl y2 (x1.heap.size+1) 93 [pt x1.heap.size]):=Q0 (C7z.out.gb g2 (fun e=>by
  obtain ⟨_,cur,hc⟩:=JL.out.rd.lt e.symm;have:=(Array.getElem?_eq_some_iff.1 hc).1;omega))
 have a0I:Hid (Cl y2 w.heap.size 55 [pt f.kb]):=Q0 (C2z.out.gb g2 (fun e=>by
  obtain ⟨_,cur,hc⟩:=JL.out.rd.lt e.symm;have:=(Array.getElem?_eq_some_iff.1 hc).1;omega))
 have FQ:=Q0 O2;have HG2:=Q0 g2;have HA2:=Q0 at2;clear O2 g2 at2 hH;refine hK.out _ _ ?_ fun hH=>?_
 · exact ⟨a0I.out,eP.out⟩
 clear hK K
 try simp only [qq]
 refine lr (i:=8) (o:=⟨some 50,.nilCheck (.tmp 42),0,_,_,none⟩) rfl J3 I1 fun K hK=>?_;go_simp;clear hH;refine hK.out _ _ ?_ fun hH=>?_
 · exact ⟨a0I.out,eP.out⟩
 clear hK K
 try simp only [qq]
 refine lq 9 hH ?_
 try simp only [qq]
 refine lz (o:=⟨none,.store 88 (.tmp 51) (.tmp 49),0,_,_,none⟩) rfl I1 fun K hK=>?_;have z4:y2.cell? ⟨f.kb,4,none⟩=some g.rv:=eP.out.cell 4;have zf:=eP.out.opn 4;obtain ⟨ra,rc,vR⟩:=FQ.out.form;subst vR;go_simp;clear hH;refine hK.out _ _ ?_;clear hK K
 try simp only [qq]
 refine F9 I1 ?_ _;have a0J:x1.heap.size+1≠f.kb:=by have:=JL.out.kb.lt;omega
 have iT:=Q0 (eP.out.set 4 (.slice ra (g.q.length+1) rc));have a2F:=Q0 (ZQ.out.on (F8 y2 f.kb 4 (.slice ra (g.q.length+1) rc)) a0J);have CO:=Q0 (F8 y2 f.kb 4 (.slice ra (g.q.length+1) rc));generalize (y2.setCell ⟨f.kb,4,none⟩ (.slice ra (g.q.length+1) rc))=y3 at*;have j0:y3.cell? ⟨x1.heap.size+1,0,none⟩=some (.pointer (some ⟨x1.heap.size,0,none⟩)):=a2F.out.cell 0;have HSF:Hid (U_ f { g with ow:=ext (ext g.ow w.heap.size (.run g.rs.length)) y0.heap.size .rd,rs:=g.rs++[x],lr:=Mf (m.nm,pt x1.heap.size) (g.lr.filter fun p=>!decide (p.1=m.nm)),q:=g.q++[.go g.rs.length],rv:=.slice ra (g.q.length+1) rc } y3):=by
  have h1:=HGY.out.ext y0.heap.size Q8 .rd;have hks:((g.rs++[x]).map (·.k)).getD g.rs.length Og=x.k:=by simp [List.getD]
  have iY:∀ it∈g.q,It.v ((g.rs++[x]).map (·.k)) it=It.v g.ks it:=fun it hq=>by
   cases it with
   | go i=>have hq':i<g.rs.length:=JL.out.TM _ hq;show Rk.be _=Rk.be _;rw [Xp hq'];rfl
   | re=>rfl
  have hmap:(g.q++[It.go g.rs.length]).map (It.v ((g.rs++[x]).map (·.k)))=g.q.map (It.v g.ks)++[x.k.be]:=by
   rw [List.map_append,List.map_congr_left iY];show _++[Rk.be _]=_;rw [hks]
  have hrow:∀ k,(Value.slice ra (g.q.length+1) rc).ownBlock=some k->ext (ext g.ow w.heap.size (.run g.rs.length)) y0.heap.size .rd k=some .rd:=fun k e=>by
   have e':(Value.slice ra ((List.map (It.v g.ks) g.q++[x.k.be]).length) rc).ownBlock=some k:=by cases ra with | none=>cases e | some ad=>exact e
   rcases HA2.out with h | h
   · rw [h] at e'
     obtain ⟨h1,h2⟩:=hro k e';have yV:k<w.heap.size:=by obtain ⟨_,cur,hc⟩:=JL.out.rd.lt e';exact (Array.getElem?_eq_some_iff.1 hc).1
     rw [J7 O0,J7 yV,h2]
   rw [h] at e';have e':=Option.some.inj e';have:=RL.size;exact mh O0
  have hwf:=Nat.le_trans RL.size HG2.out.size;have hex:Ex (fun k=>ext (ext g.ow w.heap.size (.run g.rs.length)) y0.heap.size .rd k=some .kb\/ext (ext g.ow w.heap.size (.run g.rs.length)) y0.heap.size .rd k=some .rd) y0 y3:=by
   refine ⟨CO.out.os.trans (HG2.out.os.trans RL.os),CO.out.tape.trans (HG2.out.tape.trans RL.tape),CO.out.output.trans (HG2.out.output.trans RL.output),by rw [CO.out.size];exact hwf,fun k hk hn=>?_⟩;have hkk:k≠f.kb:=fun e=>hn (.inl (by rw [J7 hk,e,J7 JL.out.kb.lt];exact JL.out.jM));have hkr:some k≠g.rv.ownBlock:=fun e=>hn (.inr (by
    obtain ⟨_,h2⟩:=hro k e.symm;have yV:k<w.heap.size:=by obtain ⟨_,cur,hc⟩:=JL.out.rd.lt e.symm;exact (Array.getElem?_eq_some_iff.1 hc).1
    rw [J7 hk,J7 yV,h2]))
   exact (CO.out.block k hkk).trans ((HG2.out.block k (by have:=RL.size;omega) hkr).trans (RL.block k hk))
  refine h1.vJ (rv':=.slice ra (g.q.length+1) rc) (q':=g.q++[.go g.rs.length]) hex iT.out ?_ hrow (fun it hq=>?_) fun it hq=>?_
  · show V7 y3 f.base 1 _ ((g.q++[It.go g.rs.length]).map (It.v ((g.rs++[x]).map (·.k))))
    rw [hmap];have e1:(List.map (It.v g.ks) g.q++[x.k.be]).length=g.q.length+1:=U0;have hO:=FQ.out;rw [e1] at hO;refine hO.keep fun k e hl=>CO.out.block k fun e2=>?_;have:=hrow k e;rw [e2] at this;rw [J7 (by have:=JL.out.kb.lt;omega),J7 JL.out.kb.lt,JL.out.jM] at this;cases this
  · rcases List.mem_append.1 hq with hq | hq
    · obtain ⟨k1,k2⟩:=h1.its it hq
      refine ⟨?_,k2⟩
      cases it with
      | go i=>trivial
      | re i r b7 b5=>
       have g1:∀ k,k<y0.heap.size->ext (ext g.ow w.heap.size (.run g.rs.length)) y0.heap.size .rd k=none->y3.heap[k]?=y0.heap[k]?:=fun k hk he=>hex.block k hk (by rw [he];simp);exact ⟨(g1 _ k1.1.lt k2.1).trans k1.1,(g1 _ k1.2.lt k2.2).trans k1.2⟩
    obtain rfl:=List.mem_singleton.1 hq;exact ⟨trivial,trivial⟩
  show it.i<(g.rs++[x]).length;rw [List.length_append];rcases List.mem_append.1 hq with hq | hq
  · have:=JL.out.TM it hq;omega
  obtain rfl:=List.mem_singleton.1 hq;show g.rs.length<_;simp
 have HBF:Hid (Below f.base w y3):=Q0 (IM.out.trans ⟨CO.out.os.trans (HG2.out.os.trans RL.os),CO.out.tape.trans (HG2.out.tape.trans RL.tape),CO.out.output.trans (HG2.out.output.trans RL.output),by rw [CO.out.size];exact Nat.le_trans RL.size HG2.out.size,fun k hk=>by
  have hk0:k<y0.heap.size:=by have:=IM.out.size;omega
  have hkk:k≠f.kb:=fun e=>by have:=JL.out.rM _ _ JL.out.jM;omega
  have hkr:some k≠g.rv.ownBlock:=fun e=>by have:=JL.out.rM _ _ (hro k e.symm).2;omega
  exact (CO.out.block k hkk).trans ((HG2.out.block k (by have:=RL.size;omega) hkr).trans (RL.block k hk0))⟩)
 have zP:Hid (∀ k,k<w.heap.size->g.ow k=none->y3.heap[k]?=w.heap[k]?):=fun k hk he=>by
  have hk8:=Nat.lt_of_lt_of_le hk rZ.out.size;have hkk:k≠f.kb:=fun e=>by rw [e,JL.out.jM] at he;cases he
  have hkr:some k≠g.rv.ownBlock:=fun e=>by rw [(hro k e.symm).2] at he;cases he
  have hkm:k≠f.mr:=fun e=>by rw [e,JL.out.YM] at he;cases he
  exact (CO.out.block k hkk).trans ((HG2.out.block k (by have:=RL.size;omega) hkr).trans ((RL.block k O0).trans ((SL.out.block k hk8).trans (rZ.out.block k hk hkm))))
 have xM:Hid (x.k.m=m/\x.ls=[]/\x.st=false/\x.wl=[]/\x.GL=.iM/\x.r=⟨6,⟨#[]⟩⟩/\x.k.B=x1.heap.size):=by show _/\_;rw [LU.out];exact ⟨rfl,rfl,rfl,rfl,rfl,rfl,rfl⟩
 have ZR:Hid (∀ (j:Nat) y,g.rs[j]?=some y->y.k.m.nm≠m.nm):=fun j y hy e=>by
  have:=JL.out.key j y hy;rw [e,HNK.out] at this;cases this
 clear hro RL CO iT eP HGZ HGY FQ HG2 HA2 a0J;go_wp2;go_ret;exact ⟨_,g.rs.length,x,by rw [xM.out.2.2.2.2.2.2];rfl,HSF.out,.inr ⟨rfl,ZR.out,rfl,rfl,xM.out.1,xM.out.2.1,xM.out.2.2.1,xM.out.2.2.2.1,xM.out.2.2.2.2.1,xM.out.2.2.2.2.2.1⟩,U0,HBF.out,fun k hk he=>⟨zP.out k hk he,by show ext (ext g.ow w.heap.size _) y0.heap.size .rd k=none;rw [J7 O0,J7 hk];exact he⟩⟩
end Go.Proofs.YtdpoaadafcaffaaGreatDoor
namespace Go.Proofs.YtdpoaadafcaffaaGreatDoor
open Proofs.Tryz
open Go.RowKit
open G (Q6)
open G.T (F2 L6 Y3 U3)
variable {u u' w:World} {B base i j k kb n:Nat} {f:Fx} {g:Gh} {rv' v:Value} {x x' y:Ru} {t:TN} {s:RS} {it:It} {l rs2:List Ru} {E:Env} {ac:Option Nat} {its q':List It}
theorem uB {b:Nat} {l:List (ByteArray×Value)} {k:ByteArray} (h:w.ownsMap prog 9 Z8 b n (mapD l)) (hk:k.size<=maxLen):(Instr.lookup 87 (.map (some b)) (.string k) false).run prog w=.ok ((U9 l k).getD (.slice none 0 0)) w:=rG h underlying87 (Tryz.zeroValue190 w) hk
def X7 (ow:Nat->Option Ow) (n:Nat) (k:Nat):Option Ow:=if k<n then ow k else none
theorem I5 {ow:Nat->Option Ow} (h:k<n):X7 ow n k=ow k:=if_pos h
theorem L8 {ow:Nat->Option Ow} (h:n<=k):X7 ow n k=none:=if_neg O0
theorem U_.X7 (h:U_ f g w) (n:Nat) (hn:w.heap.size<=n):U_ f { g with ow:=X7 g.ow n } w:=
 h.jF _ (fun k hk=>I5 O0) (fun k o' e=>by
  rcases Nat.lt_or_ge k n with h1 | h1
  · rw [I5 h1] at e;exact h.rM k o' e
  rw [L8 h1] at e;cases e)
theorem Ti {e:TypeId} {xs:List Value} (h:w.ownsRow base e 1 v n xs):∃ a c,v=.slice a n c/\∀ j u,xs[j]?=some u->∃ g,a=some ⟨g,0,none⟩/\w.cell? ⟨g,j,none⟩=some u:=by
 have h':=h;rcases h.2 with ⟨hv,h0⟩ | ⟨g,cap,cur,hv,_⟩
 · refine ⟨none,0,by rw [hv,h0],fun j u e=>?_⟩
   have:=h.1;have hj:=(List.getElem?_eq_some_iff.1 e).1;omega
 refine ⟨some ⟨g,0,none⟩,cap,hv,fun j u e=>⟨g,rfl,?_⟩⟩;subst hv;have hj:=(List.getElem?_eq_some_iff.1 e).1;rw [h'.cellAt j (by have:=h'.1;omega)];exact e
theorem Ia.yG (h:Ia base kb x t s u) (ho:Hm x.k.B u u') (hc:Cl u' x.k.B 96 x'.cells) (e1:x'.k=x.k) (e2:x'.ls=x.ls) (e3:x'.lv=x.lv) (e4:x'.v1=x.v1) (e5:x'.v2=x.v2):Ia base kb x' t s u':=by
 have k1:∀ {b:Nat} {t:TypeId} {xs:Array Value},u.heap[b]?=some (.cells xs t (0,0))->t≠96->u'.heap[b]?=some (.cells xs t (0,0)):=fun hb ht=>(ho.block _ (j6 hb h.hB ht)).trans hb;have k2:∀ {e:TypeId} {size n:Nat} {v:Value} {xs:List Value},u.ownsRow base e size v n xs->e≠96->u'.ownsRow base e size v n xs:=fun hr he=>Y0 hr fun k hk=>by
  obtain ⟨_,cur,OL⟩:=J2 hr hk;rw [k1 OL he,OL]
 refine ⟨by rw [e1];exact hc,by rw [e1];exact k1 h.h7 J3,by rw [e1];exact k1 h.h8 J3,by rw [e1];exact k1 h.h9 J3,by rw [e1];exact k1 h.h2 J3,by rw [e1];exact k1 h.h10 J3,?_,by rw [e2,e3];exact k2 h.lk J3⟩;rw [e1,e4,e5];exact ⟨h.rw.PQ,h.rw.VN,h.rw.QQ,h.rw.aS,k1 h.rw.h0 J3,k1 h.rw.h1 J3,k1 h.rw.h2 J3,k1 h.rw.h3 J3,k2 h.rw.o1 J3,k2 h.rw.o2 J3⟩
theorem zq.of (e1:x'.k=x.k) (e3:x'.lv=x.lv) (e4:x'.v1=x.v1) (e5:x'.v2=x.v2) (h:zq x' k):zq x k:=by
 unfold zq at h ⊢;rw [e1,e3,e4,e5] at h;exact h
theorem Hm.ex {S:Nat->Prop} (h:Hm B u u') (hB:S B):Ex S u u':=⟨h.os,h.tape,h.output,Nat.le_of_eq h.size.symm,fun k _ hn=>h.block k (fun e=>hn (by rw [e];exact hB))⟩
theorem IB {y0 y1 y2 y3:World} (h:U_ f g y0) (hb:Below y0.heap.size y0 y1) (hO:V7 y2 f.base 1 rv' (g.q.map (It.v g.ks)++[it.v g.ks])) (hg:y1.grownBy y2 g.rv.ownBlock) (hat:rv'.ownBlock=g.rv.ownBlock\/rv'.ownBlock=some y1.heap.size) (hon:Hm f.kb y2 y3) (hkb:Cl y3 f.kb 90 (b_ f rv')) (hit:it.At g.ks y0/\it.own g.ow) (hil:it.i<g.rs.length):
 U_ f { g with ow:=ext g.ow y0.heap.size .rd,q:=g.q++[it],rv:=rv' } y3/\Below f.base y0 y3/\∀ k,k<y0.heap.size->g.ow k=none->y3.heap[k]?=y0.heap[k]?:=by
 have hro:∀ k,g.rv.ownBlock=some k->k<y0.heap.size/\g.ow k=some .rd:=fun k e=>by
  obtain ⟨_,cur,hc⟩:=h.rd.lt e;exact ⟨(Array.getElem?_eq_some_iff.1 hc).1,h.ord k e⟩
 have h1:=h.ext y0.heap.size Q8 .rd;have hrow:∀ k,rv'.ownBlock=some k->ext g.ow y0.heap.size .rd k=some .rd:=fun k e=>by
  rcases hat with h | h
  · rw [h] at e
    obtain ⟨h1,h2⟩:=hro k e;rw [J7 h1,h2]
  rw [h] at e;have e:=Option.some.inj e;have:=hb.size;exact mh O0
 have hwf:=Nat.le_trans hb.size hg.size;have hex:Ex (fun k=>ext g.ow y0.heap.size .rd k=some .kb\/ext g.ow y0.heap.size .rd k=some .rd) y0 y3:=by
  refine ⟨hon.os.trans (hg.os.trans hb.os),hon.tape.trans (hg.tape.trans hb.tape),hon.output.trans (hg.output.trans hb.output),by rw [hon.size];exact hwf,fun k hk hn=>?_⟩;have hkk:k≠f.kb:=fun e=>hn (.inl (by rw [J7 hk,e];exact h.jM));have hkr:some k≠g.rv.ownBlock:=fun e=>hn (.inr (by rw [J7 hk,(hro k e.symm).2]));exact (hon.block k hkk).trans ((hg.block k (by have:=hb.size;omega) hkr).trans (hb.block k hk))
 have hno:∀ k,k<y0.heap.size->g.ow k=none->y3.heap[k]?=y0.heap[k]?:=fun k hk he=>hex.block k hk (by rw [J7 hk,he];simp);refine ⟨h1.vJ (rv':=rv') (q':=g.q++[it]) hex hkb ?_ hrow (fun jt hq=>?_) (fun jt hq=>?_),hex.below (fun k e=>?_) h.sz,hno⟩
 · show V7 y3 f.base 1 _ ((g.q++[it]).map (It.v g.ks))
   rw [List.map_append];refine hO.keep fun k e hl=>hon.block k fun e2=>?_;have:=hrow k e;rw [e2,J7 h.kb.lt,h.jM] at this;cases this
 · have key:∀ jt:It,jt.At g.ks y0/\jt.own g.ow->jt.At g.ks y3/\jt.own (ext g.ow y0.heap.size .rd):=fun jt hj=>by
    cases jt with
    | go i=>exact ⟨trivial,trivial⟩
    | re i r b7 b5=>exact ⟨⟨(hno _ hj.1.1.lt hj.2.1).trans hj.1.1,(hno _ hj.1.2.lt hj.2.2).trans hj.1.2⟩,⟨(J7 hj.1.1.lt).trans hj.2.1,(J7 hj.1.2.lt).trans hj.2.2⟩⟩
   rcases List.mem_append.1 hq with hq | hq
   · exact key jt (h.its jt hq)
   obtain rfl:=List.mem_singleton.1 hq;exact key _ hit
 · rcases List.mem_append.1 hq with hq | hq
   · exact h.TM jt hq
   obtain rfl:=List.mem_singleton.1 hq;exact hil
 rcases e with e | e <;> exact h1.rM k _ e
theorem ZK (f:Fx) (g:Gh) (i:Nat) (x:Ru) (r:R2) (w:World) (hs:U_ f g w) (hi:g.rs[i]?=some x) (hq:g.q.length+x.wl.length<=1000) (hm:x.k.m.nm.size<=20):
 Calls prog 79 #[pt f.kb,pt x.k.B,.agg #[.int .i64 r.code,.string r.tx]] w fun e w'=>e=.returned (.tuple #[])/\∃ (its:List It) (rv':Value) (bO:Nat->Option Ow),U_ f { g with rs:=g.rs.set i { x with r:=r },q:=g.q++its,rv:=rv',ow:=bO } w'/\its.map It.i=x.wl/\(∀ it∈its,∃ j b7 b5,it=.re j r b7 b5)/\Below f.base w w'/\∀ k,k<w.heap.size->g.ow k=none->w'.heap[k]?=w.heap[k]?/\bO k=none:=by
 have hnl:x.k.m.nm.size<=maxLen:=by unfold maxLen;omega
 have JL:=Q0 hs;have HI:=Q0 hi;obtain ⟨wa,wc,hwv,hwc⟩:=Ti (hs.wr i x hi);have HWV:Hid ((U9 g.lw x.k.m.nm).getD (.slice none 0 0)=.slice wa x.wl.length wc):=Q0 ((hs.kw i x hi).trans hwv);obtain ⟨w1,hw1⟩:∃ u:World,u=w.alloc (.cells #[.int .i64 r.code,.string r.tx] 31):=⟨_,rfl⟩;have HW1:=Q0 hw1;have hb1:Below w.heap.size w w1:=by rw [hw1];exact bA
 have C5:Hid (Cl w1 w.heap.size 31 [.int .i64 r.code,.string r.tx]):=by show Cl _ _ _ _;rw [hw1];exact F3 w _ 31
 have NL:=Q0 (((hs.X7 w.heap.size Q8).grow hb1));have HB1:=Q0 ((hs.ru i x hi).hB.below hb1 (hs.ru i x hi).hB.lt);have HXW:=Q0 hwv;clear hs hi hwv hwc hw1;have d6:w1.cell? ⟨x.k.B,6,none⟩=some (.int .i64 x.r.code):=HB1.out.cell 6;have d7:w1.cell? ⟨x.k.B,7,none⟩=some (.string x.r.tx):=HB1.out.cell 7;have e6:=HB1.out.opn 6;have e7:=HB1.out.opn 7;have r0:w1.cell? ⟨w.heap.size,0,none⟩=some (.int .i64 r.code):=C5.out.cell 0;have r1:w1.cell? ⟨w.heap.size,1,none⟩=some (.string r.tx):=C5.out.cell 1;go_enter func79,ntmps79;rw [show pt f.kb=.pointer (some ⟨f.kb,0,none⟩) from rfl,show pt x.k.B=.pointer (some ⟨x.k.B,0,none⟩) from rfl]
 go_upto_region 1 with fail
 rw [<- HW1.out]
 go_upto_region 2 with fail
 have hne:w.heap.size≠x.k.B:=by have:=(JL.out.ru i x HI.out).hB.lt;omega
 have hon:=(F8 w1 x.k.B 6 (.int .i64 r.code)).trans (F8 _ x.k.B 7 (.string r.tx));have hc2:Cl ((w1.setCell ⟨x.k.B,6,none⟩ (.int .i64 r.code)).setCell ⟨x.k.B,7,none⟩ (.string r.tx)) x.k.B 96 ({ x with r:=r }:Ru).cells:=(HB1.out.set 6 (.int .i64 r.code)).set 7 (.string r.tx);generalize ((w1.setCell ⟨x.k.B,6,none⟩ (.int .i64 r.code)).setCell ⟨x.k.B,7,none⟩ (.string r.tx))=w2 at*;have kV:Hid (U_ f { g with ow:=X7 g.ow w.heap.size,rs:=g.rs.set i { x with r:=r } } w2):=by
  have eO:=NL.out.ru i x HI.out;refine NL.out.run (x':={ x with r:=r }) HI.out (hon.ex (S:=fun k=>X7 g.ow w.heap.size k=some (.run i)) (NL.out.kM i x HI.out _ (.inl U0))) (eO.yG hon hc2 rfl rfl rfl rfl rfl) (fun k hk=>NL.out.kM i x HI.out k (zq.of rfl rfl rfl rfl hk)) rfl rfl rfl
 have C5b:=Q0 (C5.out.on hon hne);have zP:Hid (∀ k,k<w.heap.size->g.ow k=none->w2.heap[k]?=w.heap[k]?):=fun k hk he=>(hon.block k (fun e=>by rw [e,JL.out.kM i x HI.out _ (.inl U0)] at he;cases he)).trans (hb1.block k hk);have tN:Hid (Below f.base w w2):=Q0 ((hb1.mono JL.out.sz).trans (hon.below (by exact JL.out.rM _ _ (JL.out.kM i x HI.out _ (.inl U0)))));clear d6 d7 e6 e7 r0 r1 hon hc2 HB1 C5 NL hb1 HW1;refine wp_region_held_drew (S:=fun u=>Cl u f.kb 90 (b_ f g.rv)/\Cl u x.k.B 96 ({ x with r:=r }:Ru).cells/\u.ownsMap prog 9 Z8 f.mw g.lw.length (mapD g.lw)) I1 ?_ fun hH=>?_
 · exact ⟨kV.out.kb,(kV.out.ru i _ (Df HI.out)).hB,kV.out.mw⟩
 refine tq 0 hH ?_;refine tq 1 hH ?_;refine tq 2 hH ?_;refine tq 3 hH ?_ (v:=?_) (hv:=?e)
 case e=>intro wq hSw;(try dsimp only at hSw);obtain ⟨s1,s2,s3⟩:=hSw;have d1:wq.cell? ⟨f.kb,3,none⟩=some (.map (some f.mw)):=s1.cell 3;have d2:wq.cell? ⟨x.k.B,0,none⟩=some (.string x.k.m.nm):=s2.cell 0;go_simp;try with_reducible rfl
 refine tq 4 hH ?_;refine tq 5 hH ?_;refine tq 6 hH ?_;refine tq 7 hH ?_;refine tq 8 hH ?_ (v:=?_) (hv:=?e)
 case e=>intro wq hSw;(try dsimp only at hSw);obtain ⟨s1,s2,s3⟩:=hSw;have d1:wq.cell? ⟨f.kb,3,none⟩=some (.map (some f.mw)):=s1.cell 3;have d2:wq.cell? ⟨x.k.B,0,none⟩=some (.string x.k.m.nm):=s2.cell 0;go_simp;try with_reducible rfl
 try simp only [qq]
 refine tk (i:=9) (oi:=⟨some 22,.lookup 87 (.tmp 16) (.tmp 21) false,190,_,_,none⟩) (v:=.slice wa x.wl.length wc) rfl I1 rfl ?e hH ?_
 case e=>intro wq hSw;exact qp 87 _ _ false rfl (v:=.map (some f.mw)) (z:=.string x.k.m.nm) rfl rfl ((uB hSw.2.2 hnl).trans (by rw [HWV.out]))
 refine tq 10 hH ?_;refine tq 11 hH ?_
 try simp only [qq]
 refine wpAnyH_done I1 ?_ _;obtain ⟨x2,hx2⟩:∃ x:World,x=w2.drew:=⟨_,rfl⟩;rw [<- hx2];have hbx:Below w2.heap.size w2 x2:=by rw [hx2];exact (Below.refl _ w2).drew
 have HSB:=Q0 (kV.out.grow hbx);have C5c:=Q0 (C5b.out.below hbx C5b.out.lt);have a2G:=Q0 (tN.out.trans (hbx.mono (by have:=tN.out.size;have:=JL.out.sz;omega)));have a2H:Hid (∀ k,k<w.heap.size->g.ow k=none->x2.heap[k]?=w.heap[k]?/\X7 g.ow w.heap.size k=none):=fun k hk he=>⟨(hbx.block k (Nat.lt_of_lt_of_le hk (Nat.le_of_lt (Nat.lt_of_le_of_lt Q8 C5b.out.lt)))).trans (zP.out k hk he),(I5 hk).trans he⟩;clear hx2 hbx kV C5b tN zP hH
 go_wp2_with fail
 go_loopw [24] (fun v24 wr=>∃ (k:Nat) (its:List It) (rv':Value) (bO:Nat->Option Ow),v24=.int .i64 k/\k<=x.wl.length/\Hid (U_ f { g with rs:=g.rs.set i { x with r:=r },q:=g.q++its,rv:=rv',ow:=bO } wr)/\Hid (its.map It.i=x.wl.take k)/\Hid (∀ it∈its,∃ j b7 b5,it=.re j r b7 b5)/\Hid (Cl wr w.heap.size 31 [.int .i64 r.code,.string r.tx])/\Hid (bO w.heap.size=none)/\Hid (Below f.base w wr)/\Hid (∀ k,k<w.heap.size->g.ow k=none->wr.heap[k]?=w.heap[k]?/\bO k=none)) (fun v24 _=>x.wl.length - (intOf v24).toNat)
 case atStart=>exact ⟨0,[],g.rv,X7 g.ow w.heap.size,rfl,Nat.zero_le _,by rw [List.append_nil];exact HSB.out,rfl,(fun it h=>by cases h),C5c.out,L8 Q8,a2G.out,a2H.out⟩
 obtain ⟨k,its,rv',bO,rfl,hk,ZU,HIT,HRE,nP,QM,HBR,HKR⟩:=hrel;by_cases hlt:k<x.wl.length;rotate_left
 · obtain rfl:k=x.wl.length:=O0
   rw [List.take_length] at HIT;go_wp2
   go_end0
   exact ⟨rfl,its,rv',bO,ZU.out,HIT.out,HRE.out,HBR.out,HKR.out⟩
 obtain ⟨j,hj⟩:∃ j,x.wl[k]?=some j:=⟨_,List.getElem?_eq_getElem hlt⟩;have HJ:=Q0 hj;have hjl:=JL.out.DN i x HI.out j (List.mem_of_getElem? hj);have nY:(g.rs.set i { x with r:=r }).map (·.k)=g.ks:=Gp HI.out rfl;have HKS:=Q0 nY;obtain ⟨wa2,wc2,hw2,hc2⟩:=Ti (ZU.out.wr i _ (Df HI.out));obtain ⟨gw,hgw,hcell⟩:=hc2 k ((g.ks.getD j Og).go) (by
  show (x.wl.map fun j=>(((g.rs.set i { x with r:=r }).map (·.k)).getD j Og).go)[k]?=_;rw [nY,List.getElem?_map,hj];rfl)
 have a2I:wa=wa2:=by
  have h1:x.wv=.slice wa2 x.wl.length wc2:=hw2;rw [HXW.out] at h1;injection h1
 subst hgw;subst a2I;have hcell':wr.cell? ⟨gw,k,none⟩=some (.func (.func 78) #[] #[.pointer (some ⟨(g.ks.getD j Og).c5,0,none⟩),.pointer (some ⟨(g.ks.getD j Og).ML,0,none⟩),.pointer (some ⟨(g.ks.getD j Og).FM,0,none⟩),.pointer (some ⟨(g.ks.getD j Og).c2,0,none⟩),.pointer (some ⟨(g.ks.getD j Og).fM,0,none⟩)]):=hcell;clear hj hw2 hc2 hcell nY;obtain ⟨kk,HKK⟩:∃ kk,Hid (g.ks.getD j Og=kk):=⟨_,rfl⟩;rw [HKK.out] at hcell';have hlt':(k:Int)<x.wl.length:=O0
 go_upto_region 5 with fail
 obtain ⟨w4,hw4⟩:∃ u:World,u=wr.alloc (.cells #[.func (.func 78) #[] #[.pointer (some ⟨kk.c5,0,none⟩),.pointer (some ⟨kk.ML,0,none⟩),.pointer (some ⟨kk.FM,0,none⟩),.pointer (some ⟨kk.c2,0,none⟩),.pointer (some ⟨kk.fM,0,none⟩)]] 145):=⟨_,rfl⟩;rw [<- hw4];have hb4:Below wr.heap.size wr w4:=by rw [hw4];exact bA
 have C7:Hid (Cl w4 wr.heap.size 145 [kk.go]):=by show Cl _ _ _ _;rw [hw4];exact F3 wr _ 145
 have EO:Hid (U_ f { g with rs:=g.rs.set i { x with r:=r },q:=g.q++its,rv:=rv',ow:=X7 bO wr.heap.size } w4):=Q0 ((ZU.out.X7 wr.heap.size Q8).grow hb4);have pY:=Q0 (nP.out.below hb4 nP.out.lt);have mM:=Q0 (HBR.out.trans (hb4.mono (by have:=HBR.out.size;have:=JL.out.sz;omega)));have d4:w4.cell? ⟨f.kb,4,none⟩=some rv':=EO.out.kb.cell 4;have a0K:Hid ((w4.alloc (.cells #[.func (.func 117) #[] #[.pointer (some ⟨wr.heap.size,0,none⟩),.pointer (some ⟨w.heap.size,0,none⟩)]] 1)).cell? ⟨w4.heap.size,0,none⟩=some (.func (.func 117) #[] #[pt wr.heap.size,pt w.heap.size])):=Q0 ((F3 w4 [_] 1).cell 0);have HAL:Hid (Below w4.heap.size w4 (w4.alloc (.cells #[.func (.func 117) #[] #[.pointer (some ⟨wr.heap.size,0,none⟩),.pointer (some ⟨w.heap.size,0,none⟩)]] 1))):=Q0 bA;have YQ:its.length=k:=by have:=congrArg List.length HIT.out;simpa [Nat.min_eq_left hk] using this
 have HOF:=Q0 (EO.out.rd.keep (w':=w4.alloc (.cells #[.func (.func 117) #[] #[.pointer (some ⟨wr.heap.size,0,none⟩),.pointer (some ⟨w.heap.size,0,none⟩)]] 1)) fun q _ hl=>HAL.out.block q hl);have JM:Hid (((g.q++its).map (It.v ((g.rs.set i { x with r:=r }).map (·.k)))).length<=1000000):=by show _<=_;simp;omega
 have a2J:=Q0 hb4;clear hw4 hb4 hcell' YQ
 go_wp2_with (refine dG rfl _ _ 88 rfl f.base 1 underlying88 iI rv' _ rfl HOF.out ⟨w4.heap.size,0,none⟩ (.func (.func 117) #[] #[pt wr.heap.size,pt w.heap.size]) rfl a0K.out rfl JM.out (by have:=EO.out.sz;simp;omega) ?_;intro v5 w5 O5 g5 GZ;obtain ⟨ra,rc,hv5⟩:=O5.form;subst hv5;have a2K:=Q0 O5;have AV:=Q0 g5;have HA5:=Q0 GZ;have qY:=Q0 ((EO.out.kb.below HAL.out EO.out.kb.lt).gb g5 (fun e=>by have:=EO.out.ord _ e.symm;rw [EO.out.jM] at this;cases this));have z4:w5.cell? ⟨f.kb,4,none⟩=some rv':=qY.out.cell 4;have zf:w5.frozen? ⟨f.kb,4,none⟩=false:=qY.out.opn 4;clear O5 g5 GZ d4)
 have e1:((g.q++its).map (It.v ((g.rs.set i { x with r:=r }).map (·.k)))++[Value.func (.func 117) #[] #[pt wr.heap.size,pt w.heap.size]]).length=g.q.length+(its.length+1):=U0;have hO:=a2K.out;have hA:=HA5.out;change V7 w5 f.base 1 (.slice ra ((g.q++its).map (It.v ((g.rs.set i { x with r:=r }).map (·.k)))++[Value.func (.func 117) #[] #[pt wr.heap.size,pt w.heap.size]]).length rc) ((g.q++its).map (It.v ((g.rs.set i { x with r:=r }).map (·.k)))++[Value.func (.func 117) #[] #[pt wr.heap.size,pt w.heap.size]]) at hO;change (Value.slice ra ((g.q++its).map (It.v ((g.rs.set i { x with r:=r }).map (·.k)))++[Value.func (.func 117) #[] #[pt wr.heap.size,pt w.heap.size]]).length rc).ownBlock=_\/(Value.slice ra ((g.q++its).map (It.v ((g.rs.set i { x with r:=r }).map (·.k)))++[Value.func (.func 117) #[] #[pt wr.heap.size,pt w.heap.size]]).length rc).ownBlock=_ at hA;rw [e1] at hO hA;have pO:w.heap.size<wr.heap.size:=nP.out.lt;have HP:=Q0 (IB (it:=.re j r wr.heap.size w.heap.size) (rv':=.slice ra (g.q.length+(its.length+1)) rc) EO.out HAL.out hO AV.out hA (F8 w5 f.kb 4 (.slice ra (g.q.length+(its.length+1)) rc)) (qY.out.set 4 _) ⟨⟨by show Cl w4 wr.heap.size 145 [(((g.rs.set i { x with r:=r }).map (·.k)).getD j Og).go];rw [HKS.out,HKK.out];exact C7.out,pY.out⟩,L8 Q8,(I5 pO).trans QM.out⟩ (by show j<(g.rs.set i _).length;rw [List.length_set];exact hjl));generalize (w5.setCell ⟨f.kb,4,none⟩ (.slice ra (g.q.length+(its.length+1)) rc))=w6 at*;have a2L:Hid ((its++[It.re j r wr.heap.size w.heap.size]).map It.i=x.wl.take (k+1)):=by
  show _=_;rw [List.map_append,HIT.out,List.take_add_one,HJ.out];rfl
 have a2M:Hid (∀ it∈its++[It.re j r wr.heap.size w.heap.size],∃ j b7 b5,it=.re j r b7 b5):=fun it h=>by
  rcases List.mem_append.1 h with h | h
  · exact HRE.out it h
  exact ⟨_,_,_,List.mem_singleton.1 h⟩
 have zN:wr.heap.size<w4.heap.size:=C7.out.lt;have a2N:Hid (Cl w6 w.heap.size 31 [.int .i64 r.code,.string r.tx]):=Q0 ((HP.out.2.2 w.heap.size pY.out.lt (by show X7 bO wr.heap.size w.heap.size=none;rw [I5 pO];exact QM.out)).trans pY.out);have QL:=Q0 (mM.out.trans HP.out.2.1);have KQ:Hid (U_ f { g with rs:=g.rs.set i { x with r:=r },q:=g.q++(its++[It.re j r wr.heap.size w.heap.size]),rv:=.slice ra (g.q.length+(its.length+1)) rc,ow:=ext (X7 bO wr.heap.size) w4.heap.size .rd } w6):=by
  have:=HP.out.1;show U_ _ _ _;rw [<- List.append_assoc];exact this
 have PO:Hid (ext (X7 bO wr.heap.size) w4.heap.size .rd w.heap.size=none):=by show _=_;rw [J7 O0,I5 pO];exact QM.out
 have HK6:Hid (∀ q,q<w.heap.size->g.ow q=none->w6.heap[q]?=w.heap[q]?/\ext (X7 bO wr.heap.size) w4.heap.size .rd q=none):=fun q hq he=>by
  obtain ⟨h1,h2⟩:=HKR.out q hq he;have hx:X7 bO wr.heap.size q=none:=(I5 O0).trans h2;exact ⟨(HP.out.2.2 q O0 hx).trans ((a2J.out.block q O0).trans h1),(J7 O0).trans hx⟩
 clear HP hO hA e1 HOF a0K HAL;go_roundw
 case rel=>exact ⟨k+1,its++[It.re j r wr.heap.size w.heap.size],_,_,by go_num,O0,KQ.out,a2L.out,a2M.out,a2N.out,PO.out,QL.out,HK6.out⟩
 case measure=>simp [intOf];omega
structure Md (E:Env) (g:Gh) (ac:Option Nat):Prop where
 mem:∀ (i:Nat) x,g.rs[i]?=some x->x.k.m∈E.ms
 inj:∀ (i j:Nat) x y,g.rs[i]?=some x->g.rs[j]?=some y->x.k.m.nm=y.k.m.nm->i=j
 his:∀ (i:Nat) x,g.rs[i]?=some x->V8 E x.k.m x.ls
 fin:∀ (i:Nat) x,g.rs[i]?=some x->x.GL=.fin->((tn x.k.m x.ls).over=true/\x.wt=⟨#[]⟩)/\x.r=jg (tn x.k.m x.ls)
 non:∀ (i:Nat) x,g.rs[i]?=some x->x.GL≠.fin->(tn x.k.m x.ls).over=false/\x.r=⟨6,⟨#[]⟩⟩
 act:∀ (i:Nat) x,g.rs[i]?=some x->(x.GL=.act↔ac=some i)
 iM:∀ (i:Nat) x,g.rs[i]?=some x->(x.GL=.iM↔i∈g.q.map It.i)
 qN:(g.q.map It.i).Nodup
 EN:∀ i,It.go i∈g.q->∀ x,g.rs[i]?=some x->x.st=false
 FN:∀ i r b7 b5,It.re i r b7 b5∈g.q->∀ x,g.rs[i]?=some x->Ro E (tn x.k.m x.ls) r
 VL:∀ (i:Nat) x j,g.rs[i]?=some x->x.GL=.VL j->((tn x.k.m x.ls).has=false/\x.wt=(tn x.k.m x.ls).name)/\E.pl (tn x.k.m x.ls).name=none/\∃ y,g.rs[j]?=some y/\y.GL≠.fin/\y.k.m.nm=(tn x.k.m x.ls).name
 iN:∀ (j:Nat) y,g.rs[j]?=some y->y.GL≠.fin->y.wl.Nodup/\∀ i,i∈y.wl↔∃ x,g.rs[i]?=some x/\x.GL=.VL j
def wh (x:Ru):Nat:=40 - x.ls.length - (if x.st then 1 else 0)
def Zd (g:Gh):Nat:=(g.rs.map wh).sum+41*(30 - g.rs.length)
theorem Lf (h:l[i]?=some x):((l.set i x').map wh).sum+wh x=(l.map wh).sum+wh x':=by
 induction l generalizing i with
 | nil=>simp at h
 | cons y r ih=>
  cases i with
  | zero=>simp at h;subst h;simp;omega
  | succ i=>
   have:=ih (i:=i) (by simpa using h);simp at this ⊢;omega
theorem Md.len (h:Md E g ac) (he:E.ms.length<=30):g.rs.length<=30:=by
 have h1:(g.rs.map (·.k.m.nm)).Nodup:=by
  rw [List.nodup_iff_pairwise_ne,List.pairwise_iff_getElem];intro i j hi hj hij e;simp at hi hj e;have:=h.inj i j _ _ (List.getElem?_eq_getElem hi) (List.getElem?_eq_getElem hj) e;omega
 have:=Sc h1 (l':=E.ms.map (·.nm)) (fun n hn=>by
  obtain ⟨x,hx,rfl⟩:=List.mem_map.1 hn;obtain ⟨i,hi,rfl⟩:=List.getElem_of_mem hx;exact List.mem_map.2 ⟨_,h.mem i _ (List.getElem?_eq_getElem hi),rfl⟩)
 simp at this;omega
theorem Qh {l:List Nat} (h:l.Nodup) (hl:∀ i∈l,i<n):l.length<=n:=by
 have:=Sc h (l':=List.range n) (fun i hi=>List.mem_range.2 (hl i hi));simpa using this
theorem Md.kK {g':Gh} (hE:l8 E) (h:Md E g ac) (YQ:∀ it∈g.q,it.i<g.rs.length) {m:M3} (hm:m∈E.ms) (hb:IE g g' m i x) (hi:g'.rs[i]?=some x) (hac:∀ i,ac=some i->i<g.rs.length) (he:E.ms.length<=30):Md E g' ac/\x.k.m=m/\(∀ (j:Nat) y,g.rs[j]?=some y->g'.rs[j]?=some y)/\Zd g'<=Zd g:=by
 rcases hb with ⟨h1,h2,h3,h4⟩ | ⟨rfl,h1,h2,h3,rfl,h4,h5,h6,h7,h8⟩
 · refine ⟨⟨?_,?_,?_,?_,?_,?_,?_,?_,?_,?_,?_,?_⟩,hE.one _ _ (h.mem i x h1) hm h2,fun j y e=>by rw [h3];exact e,by unfold Zd;rw [h3];exact Nat.le_refl _⟩
   · rw [h3];exact h.mem
   · rw [h3];exact h.inj
   · rw [h3];exact h.his
   · rw [h3];exact h.fin
   · rw [h3];exact h.non
   · rw [h3];exact h.act
   · rw [h3,h4];exact h.iM
   · rw [h4];exact h.qN
   · rw [h3,h4];exact h.EN
   · rw [h3,h4];exact h.FN
   · rw [h3];exact h.VL
   rw [h3];exact h.iN
 have hL:Md E g' ac:=by
  have a0L:(tn x.k.m x.ls).over=false:=by rw [h4];rfl
  refine ⟨?_,?_,?_,?_,?_,?_,?_,?_,?_,?_,?_,?_⟩
  · intro j y e
    rw [h2] at e;rcases J6 e with ⟨rfl,rfl⟩ | ⟨_,e⟩
    · exact hm
    exact h.mem j y e
  · intro j j' y y' e e' hn
    rw [h2] at e e';rcases J6 e with ⟨rfl,rfl⟩ | ⟨_,e⟩
    · rcases J6 e' with ⟨rfl,rfl⟩ | ⟨_,e'⟩
      · rfl
      exact absurd hn.symm (h1 j' y' e')
    rcases J6 e' with ⟨rfl,e2⟩ | ⟨_,e'⟩
    · rw [e2] at hn;exact absurd hn (h1 j y (by assumption))
    exact h.inj j j' y y' e e' hn
  · intro j y e
    rw [h2] at e;rcases J6 e with ⟨rfl,rfl⟩ | ⟨_,e⟩
    · rw [h4];exact .nil _
    exact h.his j y e
  · intro j y e hs
    rw [h2] at e;rcases J6 e with ⟨rfl,rfl⟩ | ⟨_,e⟩
    · rw [h7] at hs;cases hs
    exact h.fin j y e hs
  · intro j y e hs
    rw [h2] at e;rcases J6 e with ⟨rfl,rfl⟩ | ⟨_,e⟩
    · exact ⟨a0L,h8⟩
    exact h.non j y e hs
  · intro j y e
    rw [h2] at e;rcases J6 e with ⟨rfl,rfl⟩ | ⟨_,e⟩
    · rw [h7]
      exact ⟨(fun c=>by cases c),(fun c=>by have:=hac _ c;omega)⟩
    exact h.act j y e
  · intro j y e
    rw [h2] at e;rw [h3,List.map_append,List.mem_append];rcases J6 e with ⟨rfl,rfl⟩ | ⟨hj,e⟩
    · exact ⟨fun _=>.inr (by simp [It.i]),fun _=>h7⟩
    rw [h.iM j y e];refine ⟨.inl,fun c=>?_⟩;rcases c with c | c
    · exact c
    simp [It.i] at c;omega
  · rw [h3,List.map_append]
    refine List.nodup_append.2 ⟨h.qN,U0,fun a ha b hb=>?_⟩;obtain ⟨it,hit,rfl⟩:=List.mem_map.1 ha;have:=YQ it hit;simp [It.i] at hb;subst hb;omega
  · intro j hj y e
    rw [h2] at e;rw [h3,List.mem_append] at hj;rcases J6 e with ⟨rfl,rfl⟩ | ⟨hlt,e⟩
    · exact h5
    rcases hj with hj | hj
    · exact h.EN j hj y e
    simp at hj;omega
  · intro j r b7 b5 hj y e
    rw [h2] at e;rw [h3,List.mem_append] at hj;rcases hj with hj | hj
    · have hlt:j<g.rs.length:=YQ _ hj
      rcases J6 e with ⟨rfl,_⟩ | ⟨_,e⟩
      · omega
      exact h.FN j r b7 b5 hj y e
    simp at hj
  · intro j y k e hs
    rw [h2] at e;rcases J6 e with ⟨rfl,rfl⟩ | ⟨_,e⟩
    · rw [h7] at hs;cases hs
    obtain ⟨p1,p2,z,p3,p4⟩:=h.VL j y k e hs;exact ⟨p1,p2,z,by rw [h2];exact zi p3,p4⟩
  intro j y e hs;rw [h2] at e;rcases J6 e with ⟨rfl,rfl⟩ | ⟨_,e⟩
  · rw [h6]
    refine ⟨List.nodup_nil,fun i=>⟨(fun c=>by cases c),fun ⟨z,hz,hzs⟩=>?_⟩⟩;rw [h2] at hz;rcases J6 hz with ⟨rfl,rfl⟩ | ⟨_,hz⟩
    · rw [h7] at hzs;cases hzs
    obtain ⟨_,_,u,hu,_⟩:=h.VL i z _ hz hzs;have:=(List.getElem?_eq_some_iff.1 hu).1;omega
  obtain ⟨p1,p2⟩:=h.iN j y e hs;refine ⟨p1,fun i=>?_⟩;rw [p2 i,h2];constructor
  · rintro ⟨z,hz,hzs⟩
    exact ⟨z,zi hz,hzs⟩
  rintro ⟨z,hz,hzs⟩;rcases J6 hz with ⟨rfl,rfl⟩ | ⟨_,hz⟩
  · rw [h7] at hzs;cases hzs
  exact ⟨z,hz,hzs⟩
 refine ⟨hL,rfl,fun j y e=>by rw [h2];exact zi e,?_⟩;have hl:=hL.len he;have hl2:g'.rs.length=g.rs.length+1:=by rw [h2];simp
 unfold Zd;rw [h2];have hp:wh x<=40:=by unfold wh;omega
 simp;omega
theorem Md.upd (h:Md E g (some i)) (hi:g.rs[i]?=some x) (e1:x'.k=x.k) (e2:x'.GL=x.GL) (e3:x'.wl=x.wl) (e4:x'.r=x.r) (hh:V8 E x.k.m x'.ls) (ho:(tn x.k.m x'.ls).over=false):Md E { g with rs:=g.rs.set i x' } (some i):=by
 have hxa:=(h.act i x hi).2 rfl;have hget:∀ (j:Nat) y,(g.rs.set i x')[j]?=some y->(j=i/\y=x')\/(j≠i/\g.rs[j]?=some y):=fun j y e=>by
  rcases Ad e with ⟨rfl,rfl⟩ | ⟨hne,e⟩
  · exact .inl ⟨rfl,rfl⟩
  exact .inr ⟨fun c=>hne c.symm,e⟩
 have hold:∀ (j:Nat) y,g.rs[j]?=some y->∃ z,(g.rs.set i x')[j]?=some z/\z.k=y.k/\z.GL=y.GL:=fun j y e=>by
  obtain ⟨z,hz,⟨rfl,rfl⟩ | ⟨rfl,_⟩⟩:=P_ (x':=x') hi e
  · rw [hi] at e
    obtain rfl:=Option.some.inj e;exact ⟨_,hz,e1,e2⟩
  exact ⟨z,hz,rfl,rfl⟩
 have hnq:i∉g.q.map It.i:=fun c=>by
  have:=(h.iM i x hi).2 c;rw [hxa] at this;cases this
 refine ⟨?_,?_,?_,?_,?_,?_,?_,h.qN,?_,?_,?_,?_⟩
 · intro j y e
   rcases hget j y e with ⟨rfl,rfl⟩ | ⟨_,e⟩
   · rw [e1];exact h.mem j x hi
   exact h.mem j y e
 · intro j j' y y' e e' hn
   rcases hget j y e with ⟨rfl,rfl⟩ | ⟨_,e⟩
   · rcases hget j' y' e' with ⟨rfl,rfl⟩ | ⟨_,e'⟩
     · rfl
     rw [e1] at hn;exact h.inj _ _ _ _ hi e' hn
   rcases hget j' y' e' with ⟨c1,c2⟩ | ⟨_,e'⟩
   · rw [c2,e1] at hn;rw [c1];exact h.inj _ _ _ _ e hi hn
   exact h.inj _ _ _ _ e e' hn
 · intro j y e
   rcases hget j y e with ⟨rfl,rfl⟩ | ⟨_,e⟩
   · rw [e1];exact hh
   exact h.his j y e
 · intro j y e hs
   rcases hget j y e with ⟨rfl,rfl⟩ | ⟨_,e⟩
   · rw [e2,hxa] at hs;cases hs
   exact h.fin j y e hs
 · intro j y e hs
   rcases hget j y e with ⟨rfl,rfl⟩ | ⟨_,e⟩
   · rw [e1,e4];exact ⟨ho,(h.non j x hi (by rw [hxa];simp)).2⟩
   exact h.non j y e hs
 · intro j y e
   rcases hget j y e with ⟨rfl,rfl⟩ | ⟨_,e⟩
   · rw [e2];exact h.act j x hi
   exact h.act j y e
 · intro j y e
   rcases hget j y e with ⟨rfl,rfl⟩ | ⟨_,e⟩
   · rw [e2];exact h.iM j x hi
   exact h.iM j y e
 · intro j hj y e
   rcases hget j y e with ⟨rfl,rfl⟩ | ⟨_,e⟩
   · exact absurd (List.mem_map.2 ⟨_,hj,rfl⟩) hnq
   exact h.EN j hj y e
 · intro j r b7 b5 hj y e
   rcases hget j y e with ⟨rfl,rfl⟩ | ⟨_,e⟩
   · exact absurd (List.mem_map.2 ⟨_,hj,rfl⟩) hnq
   exact h.FN j r b7 b5 hj y e
 · intro j y k e hs
   rcases hget j y e with ⟨rfl,rfl⟩ | ⟨_,e⟩
   · rw [e2,hxa] at hs;cases hs
   obtain ⟨p1,p2,z,p3,p4,p5⟩:=h.VL j y k e hs;obtain ⟨z',hz,k1,k2⟩:=hold k z p3;exact ⟨p1,p2,z',hz,by rw [k2];exact p4,by rw [k1];exact p5⟩
 intro j y e hs;have key:∀ z,g.rs[j]?=some z->y.GL=z.GL->y.wl=z.wl->y.wl.Nodup/\∀ i',i'∈y.wl↔∃ u,(g.rs.set i x')[i']?=some u/\u.GL=.VL j:=fun z hz q1 q2=>by
  obtain ⟨p1,p2⟩:=h.iN j z hz (by rw [<- q1];exact hs);rw [q2];refine ⟨p1,fun i'=>?_⟩;rw [p2 i'];constructor
  · rintro ⟨u,hu,aM⟩
    obtain ⟨u',hu',_,k2⟩:=hold i' u hu;exact ⟨u',hu',by rw [k2];exact aM⟩
  rintro ⟨u,hu,aM⟩;rcases hget i' u hu with ⟨rfl,rfl⟩ | ⟨_,hu⟩
  · rw [e2,hxa] at aM;cases aM
  exact ⟨u,hu,aM⟩
 rcases hget j y e with ⟨rfl,rfl⟩ | ⟨_,e⟩
 · exact key x hi e2 e3
 exact key y e rfl rfl
def T_ (i:Nat) (y:Ru):Ru:=if y.GL=.VL i then { y with GL:=.iM } else y
theorem V6 (i:Nat) (y:Ru):(T_ i y).k=y.k/\(T_ i y).ls=y.ls/\(T_ i y).st=y.st/\(T_ i y).wl=y.wl/\(T_ i y).r=y.r:=by
 unfold T_;split <;> exact ⟨rfl,rfl,rfl,rfl,rfl⟩
theorem Bw (i:Nat) (y:Ru):(T_ i y).wt=y.wt:=by
 unfold T_;split <;> rfl
theorem Ra (i:Nat) (y:Ru):(T_ i y).GL=if y.GL=.VL i then .iM else y.GL:=by
 unfold T_;split <;> rfl
theorem map_some {F:Ru->Ru} (h:(l.map F)[j]?=some y):∃ z,l[j]?=some z/\y=F z:=by
 rw [List.getElem?_map] at h;obtain ⟨z,h1,h2⟩:=Option.map_eq_some_iff.1 h;exact ⟨z,h1,h2.symm⟩
theorem Zg {F:Ru->Ru} {z:Ru} (h:l[j]?=some z):(l.map F)[j]?=some (F z):=by rw [List.getElem?_map,h];rfl
theorem Md.end {r:R2} (h:Md E g (some i)) (hi:g.rs[i]?=some x) (e1:x'.k=x.k) (e2:x'.GL=.fin) (e3:x'.wl=x.wl) (e4:x'.r=r) (ew:x'.wt=⟨#[]⟩) (hh:V8 E x.k.m x'.ls) (ho:(tn x.k.m x'.ls).over=true) (er:r=jg (tn x.k.m x'.ls)) (hits:its.map It.i=x.wl) (hre:∀ it∈its,∃ j b7 b5,it=.re j r b7 b5):
 Md E { g with rs:=(g.rs.map (T_ i)).set i x',q:=g.q++its } none:=by
 have hxa:=(h.act i x hi).2 rfl;have hi':(g.rs.map (T_ i))[i]?=some (T_ i x):=Zg hi;have hget:∀ (j:Nat) y,((g.rs.map (T_ i)).set i x')[j]?=some y->(j=i/\y=x')\/(j≠i/\∃ z,g.rs[j]?=some z/\y=T_ i z):=fun j y e=>by
  rcases Ad e with ⟨rfl,rfl⟩ | ⟨hne,e⟩
  · exact .inl ⟨rfl,rfl⟩
  exact .inr ⟨fun c=>hne c.symm,map_some e⟩
 have hold:∀ (j:Nat) y,g.rs[j]?=some y->∃ z,((g.rs.map (T_ i)).set i x')[j]?=some z/\z.k=y.k/\(j=i/\z=x'\/j≠i/\z=T_ i y):=fun j y e=>by
  obtain ⟨z,hz,⟨rfl,rfl⟩ | ⟨rfl,hne⟩⟩:=P_ (x':=x') hi' (Zg (F:=T_ i) e)
  · rw [hi] at e
    obtain rfl:=Option.some.inj e;exact ⟨_,hz,e1,.inl ⟨rfl,rfl⟩⟩
  exact ⟨_,hz,(V6 i y).1,.inr ⟨fun c=>hne c.symm,rfl⟩⟩
 have hwl:=h.iN i x hi (by rw [hxa];simp);have hfin:Fin E x.k.m.nm r:=⟨x.k.m,x'.ls,h.mem i x hi,rfl,hh,ho,er⟩;have hact:∀ (j:Nat) z,g.rs[j]?=some z->j≠i->z.GL≠.act:=fun j z hz hne c=>by
  have:=(h.act j z hz).1 c;simp at this;exact hne this.symm
 refine ⟨?_,?_,?_,?_,?_,?_,?_,?_,?_,?_,?_,?_⟩
 · intro j y e
   rcases hget j y e with ⟨rfl,rfl⟩ | ⟨_,z,hz,rfl⟩
   · rw [e1];exact h.mem j x hi
   rw [(V6 i z).1];exact h.mem j z hz
 · intro j j' y y' e e' hn
   rcases hget j y e with ⟨c1,c2⟩ | ⟨_,z,hz,c2⟩
   · rcases hget j' y' e' with ⟨d1,d2⟩ | ⟨_,z',hz',d2⟩
     · rw [c1,d1]
     rw [c2,d2,e1,(V6 i z').1] at hn;rw [c1];exact h.inj _ _ _ _ hi hz' hn
   rcases hget j' y' e' with ⟨d1,d2⟩ | ⟨_,z',hz',d2⟩
   · rw [c2,d2,e1,(V6 i z).1] at hn
     rw [d1];exact h.inj _ _ _ _ hz hi hn
   rw [c2,d2,(V6 i z).1,(V6 i z').1] at hn;exact h.inj _ _ _ _ hz hz' hn
 · intro j y e
   rcases hget j y e with ⟨rfl,rfl⟩ | ⟨_,z,hz,rfl⟩
   · rw [e1];exact hh
   rw [(V6 i z).1,(V6 i z).2.1];exact h.his j z hz
 · intro j y e hs
   rcases hget j y e with ⟨rfl,rfl⟩ | ⟨_,z,hz,rfl⟩
   · rw [e1,e4];exact ⟨⟨ho,ew⟩,er⟩
   rw [(V6 i z).1,(V6 i z).2.1,(V6 i z).2.2.2.2,Bw];refine h.fin j z hz ?_;rw [Ra] at hs;split at hs
   · cases hs
   exact hs
 · intro j y e hs
   rcases hget j y e with ⟨rfl,rfl⟩ | ⟨_,z,hz,rfl⟩
   · exact absurd e2 hs
   rw [(V6 i z).1,(V6 i z).2.1,(V6 i z).2.2.2.2];refine h.non j z hz (fun c=>hs ?_);rw [Ra,c];rfl
 · intro j y e
   refine ⟨fun c=>?_,(fun c=>by cases c)⟩;rcases hget j y e with ⟨rfl,rfl⟩ | ⟨hne,z,hz,rfl⟩
   · rw [e2] at c;cases c
   rw [Ra] at c;split at c
   · cases c
   exact absurd c (hact j z hz hne)
 · intro j y e
   show y.GL=.iM↔j∈(g.q++its).map It.i;rw [List.map_append,List.mem_append,hits];rcases hget j y e with ⟨rfl,rfl⟩ | ⟨hne,z,hz,rfl⟩
   · rw [e2]
     refine ⟨(fun c=>by cases c),fun c=>?_⟩;rcases c with c | c
     · have:=(h.iM j x hi).2 c
       rw [hxa] at this;cases this
     obtain ⟨u,hu,aM⟩:=(hwl.2 j).1 c;rw [hi] at hu;obtain rfl:=Option.some.inj hu;rw [hxa] at aM;cases aM
   rw [Ra];by_cases c:z.GL=.VL i
   · rw [if_pos c]
     exact ⟨fun _=>.inr ((hwl.2 j).2 ⟨z,hz,c⟩),fun _=>rfl⟩
   rw [if_neg c,h.iM j z hz];refine ⟨.inl,fun d=>?_⟩;rcases d with d | d
   · exact d
   obtain ⟨u,hu,aM⟩:=(hwl.2 j).1 d;rw [hz] at hu;obtain rfl:=Option.some.inj hu;exact absurd aM c
 · show ((g.q++its).map It.i).Nodup
   rw [List.map_append,hits];refine List.nodup_append.2 ⟨h.qN,hwl.1,fun a ha b hb hab=>?_⟩;subst hab;obtain ⟨u,hu,aM⟩:=(hwl.2 a).1 hb;have:=(h.iM a u hu).2 ha;rw [aM] at this;cases this
 · intro j hj y e
   rcases List.mem_append.1 hj with hj | hj
   · rcases hget j y e with ⟨c1,_⟩ | ⟨_,z,hz,rfl⟩
     · have:=(h.iM i x hi).2 (by rw [<- c1];exact List.mem_map.2 ⟨_,hj,rfl⟩)
       rw [hxa] at this;cases this
     rw [(V6 i z).2.2.1];exact h.EN j hj z hz
   obtain ⟨_,_,_,c⟩:=hre _ hj;cases c
 · intro j r' b7 b5 hj y e
   rcases List.mem_append.1 hj with hj | hj
   · rcases hget j y e with ⟨c1,_⟩ | ⟨_,z,hz,rfl⟩
     · have:=(h.iM i x hi).2 (by rw [<- c1];exact List.mem_map.2 ⟨_,hj,rfl⟩)
       rw [hxa] at this;cases this
     rw [(V6 i z).1,(V6 i z).2.1];exact h.FN j r' b7 b5 hj z hz
   obtain ⟨j2,_,_,c⟩:=hre _ hj;injection c with c1 c2;subst c2;have hjw:j∈x.wl:=by rw [<- hits];exact List.mem_map.2 ⟨_,hj,rfl⟩
   obtain ⟨u,hu,aM⟩:=(hwl.2 j).1 hjw;rcases hget j y e with ⟨d1,_⟩ | ⟨_,z,hz,rfl⟩
   · rw [d1,hi] at hu
     obtain rfl:=Option.some.inj hu;rw [hxa] at aM;cases aM
   rw [hz] at hu;obtain rfl:=Option.some.inj hu;obtain ⟨p1,p2,v,p3,_,p5⟩:=h.VL j z i hz aM;rw [hi] at p3;obtain rfl:=Option.some.inj p3;rw [(V6 i z).1,(V6 i z).2.1];exact .inr ⟨p1.1,.inr ⟨p2,by rw [<- p5];exact hfin⟩⟩
 · intro j y k e hs
   rcases hget j y e with ⟨rfl,rfl⟩ | ⟨_,z,hz,rfl⟩
   · rw [e2] at hs;cases hs
   rw [Ra] at hs;split at hs
   · cases hs
   rename_i hnw;obtain ⟨p1,p2,v,p3,p4,p5⟩:=h.VL j z k hz hs;obtain ⟨v',hv',k1,⟨rfl,rfl⟩ | ⟨_,rfl⟩⟩:=hold k v p3
   · exact absurd hs hnw
   rw [(V6 i z).1,(V6 i z).2.1,Bw];refine ⟨p1,p2,_,hv',fun c=>p4 ?_,by rw [k1];exact p5⟩;rw [Ra] at c;split at c
   · cases c
   exact c
 intro j y e hs;rcases hget j y e with ⟨rfl,rfl⟩ | ⟨hne,z,hz,rfl⟩
 · exact absurd e2 hs
 have hzf:z.GL≠.fin:=fun c=>hs (by rw [Ra,c];rfl);obtain ⟨p1,p2⟩:=h.iN j z hz hzf;rw [(V6 i z).2.2.2.1];refine ⟨p1,fun i'=>?_⟩;rw [p2 i'];constructor
 · rintro ⟨u,hu,aM⟩
   obtain ⟨u',hu',_,⟨c1,c2⟩ | ⟨_,rfl⟩⟩:=hold i' u hu
   · rw [c1,hi] at hu
     obtain rfl:=Option.some.inj hu;rw [hxa] at aM;cases aM
   refine ⟨_,hu',?_⟩;rw [Ra,aM,if_neg (fun c=>?_)];injection c with c;exact hne c
 rintro ⟨u,hu,aM⟩;rcases hget i' u hu with ⟨c1,c2⟩ | ⟨_,u',hu',rfl⟩
 · rw [c2,e2] at aM;cases aM
 rw [Ra] at aM;split at aM
 · cases aM
 exact ⟨u',hu',aM⟩
def pI (i j:Nat) (nm:ByteArray) (k:Nat) (z z':Ru):Prop:=z'.k=z.k/\z'.ls=z.ls/\z'.st=z.st/\(z'.r=z.r/\z'.wt=if k=i then nm else z.wt)/\z'.GL=(if k=i then .VL j else z.GL)/\z'.wl=if k=j then z.wl++[i] else z.wl
theorem Md.nK (h:Md E g (some i)) (hi:g.rs[i]?=some x) (hj:g.rs[j]?=some y) (hhas:(tn x.k.m x.ls).has=false) (hpl:E.pl (tn x.k.m x.ls).name=none) (hyf:y.GL≠.fin) (hyn:y.k.m.nm=(tn x.k.m x.ls).name) (h1:∀ (k:Nat) z,g.rs[k]?=some z->∃ z',rs2[k]?=some z'/\pI i j (tn x.k.m x.ls).name k z z') (h2:∀ (k:Nat) z',rs2[k]?=some z'->∃ z,g.rs[k]?=some z/\pI i j (tn x.k.m x.ls).name k z z'):Md E { g with rs:=rs2 } none:=by
 have hxa:=(h.act i x hi).2 rfl;have hix:∀ z,g.rs[i]?=some z->z=x:=fun z hz=>by rw [hi] at hz;exact (Option.some.inj hz).symm
 have hfin:∀ (k:Nat) z z',g.rs[k]?=some z->pI i j (tn x.k.m x.ls).name k z z'->(z'.GL=.fin↔z.GL=.fin):=fun k z z' hz hw=>by
  rw [hw.2.2.2.2.1];by_cases c:k=i
  · subst c
    rw [if_pos rfl,hix z hz,hxa];exact ⟨(fun d=>by cases d),(fun d=>by cases d)⟩
  rw [if_neg c]
 refine ⟨?_,?_,?_,?_,?_,?_,?_,h.qN,?_,?_,?_,?_⟩
 · intro k z' e
   obtain ⟨z,hz,hw⟩:=h2 k z' e;rw [hw.1];exact h.mem k z hz
 · intro k k' z z' e e' hn
   obtain ⟨u,hu,hw⟩:=h2 k z e;obtain ⟨u',hu',hw'⟩:=h2 k' z' e';rw [hw.1,hw'.1] at hn;exact h.inj _ _ _ _ hu hu' hn
 · intro k z' e
   obtain ⟨z,hz,hw⟩:=h2 k z' e;rw [hw.1,hw.2.1];exact h.his k z hz
 · intro k z' e hs
   obtain ⟨z,hz,hw⟩:=h2 k z' e;have hs':=(hfin k z z' hz hw).1 hs;have hki:k≠i:=fun c=>by rw [c] at hz;rw [hix z hz,hxa] at hs';cases hs'
   rw [hw.1,hw.2.1,hw.2.2.2.1.1,hw.2.2.2.1.2,if_neg hki];exact h.fin k z hz hs'
 · intro k z' e hs
   obtain ⟨z,hz,hw⟩:=h2 k z' e;rw [hw.1,hw.2.1,hw.2.2.2.1.1];exact h.non k z hz (fun c=>hs ((hfin k z z' hz hw).2 c))
 · intro k z' e
   obtain ⟨z,hz,hw⟩:=h2 k z' e;rw [hw.2.2.2.2.1];refine ⟨fun c=>?_,(fun c=>by cases c)⟩;by_cases d:k=i
   · rw [if_pos d] at c;cases c
   rw [if_neg d] at c;have:=(h.act k z hz).1 c;simp at this;exact absurd this.symm d
 · intro k z' e
   obtain ⟨z,hz,hw⟩:=h2 k z' e;show z'.GL=.iM↔k∈g.q.map It.i;rw [<- h.iM k z hz,hw.2.2.2.2.1];by_cases d:k=i
   · subst d
     rw [if_pos rfl,hix z hz,hxa];exact ⟨(fun c=>by cases c),(fun c=>by cases c)⟩
   rw [if_neg d]
 · intro k hk z' e
   obtain ⟨z,hz,hw⟩:=h2 k z' e;rw [hw.2.2.1];exact h.EN k hk z hz
 · intro k r b7 b5 hk z' e
   obtain ⟨z,hz,hw⟩:=h2 k z' e;rw [hw.1,hw.2.1];exact h.FN k r b7 b5 hk z hz
 · intro k z' l e hs
   obtain ⟨z,hz,hw⟩:=h2 k z' e;rw [hw.1,hw.2.1,hw.2.2.2.1.2];rw [hw.2.2.2.2.1] at hs;by_cases d:k=i
   · subst d
     rw [if_pos rfl] at hs ⊢;injection hs with hs;subst hs;rw [hix z hz];obtain ⟨y',hy',hw'⟩:=h1 j y hj;exact ⟨⟨hhas,rfl⟩,hpl,y',hy',fun c=>hyf ((hfin j y y' hj hw').1 c),by rw [hw'.1];exact hyn⟩
   rw [if_neg d] at hs ⊢;obtain ⟨p1,p2,v,p3,p4,p5⟩:=h.VL k z l hz hs;obtain ⟨v',hv',hwv⟩:=h1 l v p3;exact ⟨p1,p2,v',hv',fun c=>p4 ((hfin l v v' p3 hwv).1 c),by rw [hwv.1];exact p5⟩
 intro k z' e hs;obtain ⟨z,hz,hw⟩:=h2 k z' e;obtain ⟨p1,p2⟩:=h.iN k z hz (fun c=>hs ((hfin k z z' hz hw).2 c));have hnx:i∈z.wl->False:=fun c=>by
  obtain ⟨u,hu,aM⟩:=(p2 i).1 c;rw [hix u hu,hxa] at aM;cases aM
 have key:∀ i',(∃ u,rs2[i']?=some u/\u.GL=.VL k)↔(i'∈z.wl\/(i'=i/\k=j)):=fun i'=>by
  constructor
  · rintro ⟨u',hu',aM⟩
    obtain ⟨u,hu,hwu⟩:=h2 i' u' hu';rw [hwu.2.2.2.2.1] at aM;by_cases d:i'=i
    · rw [if_pos d] at aM
      injection aM with aM;exact .inr ⟨d,aM.symm⟩
    rw [if_neg d] at aM;exact .inl ((p2 i').2 ⟨u,hu,aM⟩)
  rintro (c | ⟨rfl,rfl⟩)
  · obtain ⟨u,hu,aM⟩:=(p2 i').1 c
    obtain ⟨u',hu',hwu⟩:=h1 i' u hu;refine ⟨u',hu',?_⟩;rw [hwu.2.2.2.2.1,if_neg (fun d=>?_)]
    · exact aM
    subst d;exact hnx c
  obtain ⟨u',hu',hwu⟩:=h1 i' x hi;exact ⟨u',hu',by rw [hwu.2.2.2.2.1,if_pos rfl]⟩
 rw [hw.2.2.2.2.2];by_cases d:k=j
 · rw [if_pos d]
   refine ⟨List.nodup_append.2 ⟨p1,U0,fun a ha b hb hab=>?_⟩,fun i'=>?_⟩
   · simp at hb
     subst hab hb;exact hnx ha
   rw [key i',List.mem_append];simp [d]
 rw [if_neg d];refine ⟨p1,fun i'=>?_⟩;rw [key i'];simp [d]
theorem Md.pop (h:Md E g none) (hq:g.q=it::q') (hi:g.rs[it.i]?=some x):Md E { g with rs:=g.rs.set it.i { x with GL:=.act,st:=true },q:=q' } (some it.i)/\(tn x.k.m x.ls).over=false/\(∀ i,it=.go i->x.st=false)/\∀ i r b7 b5,it=.re i r b7 b5->Ro E (tn x.k.m x.ls) r:=by
 have hxq:=(h.iM it.i x hi).2 (by rw [hq];simp);have hnd:=h.qN;rw [hq,List.map_cons,List.nodup_cons] at hnd;have hget:∀ (j:Nat) y,(g.rs.set it.i { x with GL:=.act,st:=true })[j]?=some y->(j=it.i/\y={ x with GL:=.act,st:=true })\/(j≠it.i/\g.rs[j]?=some y):=fun j y e=>by
  rcases Ad e with ⟨rfl,rfl⟩ | ⟨hne,e⟩
  · exact .inl ⟨rfl,rfl⟩
  exact .inr ⟨fun c=>hne c.symm,e⟩
 have hold:∀ (j:Nat) y,g.rs[j]?=some y->∃ z,(g.rs.set it.i { x with GL:=.act,st:=true })[j]?=some z/\z.k=y.k/\z.ls=y.ls/\(z.GL=.fin↔y.GL=.fin)/\(∀ l,z.GL=.VL l↔y.GL=.VL l):=fun j y e=>by
  obtain ⟨z,hz,⟨rfl,rfl⟩ | ⟨rfl,_⟩⟩:=P_ (x':={ x with GL:=.act,st:=true }) hi e
  · rw [hi] at e
    obtain rfl:=Option.some.inj e;exact ⟨_,hz,rfl,rfl,by rw [hxq];simp,fun l=>by rw [hxq];simp⟩
  exact ⟨z,hz,rfl,rfl,Iff.rfl,fun _=>Iff.rfl⟩
 refine ⟨⟨?_,?_,?_,?_,?_,?_,?_,hnd.2,?_,?_,?_,?_⟩,(h.non it.i x hi (by rw [hxq];simp)).1,fun i e=>?_,fun i r b7 b5 e=>?_⟩
 · intro j y e
   rcases hget j y e with ⟨rfl,rfl⟩ | ⟨_,e⟩
   · exact h.mem _ x hi
   exact h.mem j y e
 · intro j j' y y' e e' hn
   rcases hget j y e with ⟨c1,c2⟩ | ⟨_,e⟩
   · rcases hget j' y' e' with ⟨d1,d2⟩ | ⟨_,e'⟩
     · rw [c1,d1]
     rw [c2] at hn;rw [c1];exact h.inj _ _ _ _ hi e' hn
   rcases hget j' y' e' with ⟨d1,d2⟩ | ⟨_,e'⟩
   · rw [d2] at hn
     rw [d1];exact h.inj _ _ _ _ e hi hn
   exact h.inj _ _ _ _ e e' hn
 · intro j y e
   rcases hget j y e with ⟨rfl,rfl⟩ | ⟨_,e⟩
   · exact h.his _ x hi
   exact h.his j y e
 · intro j y e hs
   rcases hget j y e with ⟨rfl,rfl⟩ | ⟨_,e⟩
   · cases hs
   exact h.fin j y e hs
 · intro j y e hs
   rcases hget j y e with ⟨rfl,rfl⟩ | ⟨_,e⟩
   · exact h.non _ x hi (by rw [hxq];simp)
   exact h.non j y e hs
 · intro j y e
   rcases hget j y e with ⟨rfl,rfl⟩ | ⟨hne,e⟩
   · simp
   rw [h.act j y e];refine ⟨(fun c=>by cases c),fun c=>?_⟩;exact absurd (Option.some.inj c).symm hne
 · intro j y e
   rcases hget j y e with ⟨rfl,rfl⟩ | ⟨hne,e⟩
   · exact ⟨(fun c=>by cases c),fun c=>absurd c hnd.1⟩
   rw [h.iM j y e,hq];show j∈it.i::q'.map It.i↔j∈q'.map It.i;rw [List.mem_cons];exact ⟨fun c=>c.resolve_left hne,.inr⟩
 · intro j hj y e
   rcases hget j y e with ⟨c1,_⟩ | ⟨_,e⟩
   · exact absurd (List.mem_map.2 ⟨_,hj,c1⟩) hnd.1
   exact h.EN j (by rw [hq];exact List.mem_cons_of_mem _ hj) y e
 · intro j r b7 b5 hj y e
   rcases hget j y e with ⟨c1,_⟩ | ⟨_,e⟩
   · exact absurd (List.mem_map.2 ⟨_,hj,c1⟩) hnd.1
   exact h.FN j r b7 b5 (by rw [hq];exact List.mem_cons_of_mem _ hj) y e
 · intro j y l e hs
   rcases hget j y e with ⟨rfl,rfl⟩ | ⟨_,e⟩
   · cases hs
   obtain ⟨p1,p2,v,p3,p4,p5⟩:=h.VL j y l e hs;obtain ⟨v',hv',k1,k2,k3,_⟩:=hold l v p3;exact ⟨p1,p2,v',hv',fun c=>p4 (k3.1 c),by rw [k1];exact p5⟩
 · intro j y e hs
   have key:∀ z,g.rs[j]?=some z->z.GL≠.fin->y.wl=z.wl->y.wl.Nodup/\∀ i',i'∈y.wl↔∃ u,(g.rs.set it.i { x with GL:=.act,st:=true })[i']?=some u/\u.GL=.VL j:=fun z hz q1 q2=>by
    obtain ⟨p1,p2⟩:=h.iN j z hz q1;rw [q2];refine ⟨p1,fun i'=>?_⟩;rw [p2 i'];constructor
    · rintro ⟨u,hu,aM⟩
      obtain ⟨u',hu',_,_,_,k4⟩:=hold i' u hu;exact ⟨u',hu',(k4 j).2 aM⟩
    rintro ⟨u,hu,aM⟩;rcases hget i' u hu with ⟨_,rfl⟩ | ⟨_,hu⟩
    · cases aM
    exact ⟨u,hu,aM⟩
   rcases hget j y e with ⟨rfl,rfl⟩ | ⟨_,e⟩
   · exact key x hi (by rw [hxq];simp) rfl
   exact key y e hs rfl
 · subst e
   exact h.EN i (by rw [hq];exact List.mem_cons_self ..) x hi
 subst e;exact h.FN i r b7 b5 (by rw [hq];exact List.mem_cons_self ..) x hi
theorem Vh (h:Md E g ac) (hy:g.rs[j]?=some y):(g.rs.find? fun z=>decide (z.k.m.nm=y.k.m.nm))=some y:=by
 cases hf:(g.rs.find? fun z=>decide (z.k.m.nm=y.k.m.nm)) with
 | none=>exact absurd (List.find?_eq_none.1 hf y (List.mem_of_getElem? hy)) U0
 | some z=>
  have h1:=List.find?_some hf;obtain ⟨k,hk,rfl⟩:=List.getElem_of_mem (List.mem_of_find?_eq_some hf);have:=h.inj k j _ y (List.getElem?_eq_getElem hk) hy (by simpa using h1);subst this;rw [List.getElem?_eq_getElem hk] at hy;exact hy
theorem Md.looks (hE:l8 E) (h:Md E g none) (hq:g.q=[]) (hi:g.rs[i]?=some x):kH E x.k.m.nm x.ls:=by
 have hw:∀ (j:Nat) y,g.rs[j]?=some y->y.GL≠.fin->∃ k,y.GL=.VL k:=fun j y hy hf=>by
  cases hs:y.GL with
  | act=>have:=(h.act j y hy).1 hs;cases this
  | iM=>have:=(h.iM j y hy).1 hs;rw [hq] at this;cases this
  | fin=>exact absurd hs hf
  | VL k=>exact ⟨k,rfl⟩
 refine .inr ⟨x.k.m,h.mem i x hi,rfl,h.his i x hi,fun ls hh=>?_⟩;have key:=Yl hE (D:=fun m=>∃ (j:Nat) (y:Ru),g.rs[j]?=some y/\y.k.m=m) (O:=fun m=>∃ (j:Nat) (y:Ru),g.rs[j]?=some y/\y.k.m=m/\y.GL=.fin) (L:=fun m=>((g.rs.find? fun y=>decide (y.k.m.nm=m.nm)).elim [] (·.ls))) (fun m ⟨j,y,hy,e⟩=>e▸h.mem j y hy) (fun m ⟨j,y,hy,e⟩=>by
  subst e;rw [Vh h hy];exact h.his j y hy) (fun m _ ⟨j,y,hy,e,hs⟩=>by
  subst e;rw [Vh h hy];exact (h.fin j y hy hs).1.1) (fun m ⟨j,y,hy,e⟩ hno=>by
  subst e;rw [Vh h hy];have hf:y.GL≠.fin:=fun c=>hno ⟨j,y,hy,rfl,c⟩;obtain ⟨k,hk⟩:=hw j y hy hf;obtain ⟨p1,p2,v,p3,p4,p5⟩:=h.VL j y k hy hk;refine ⟨(h.non j y hy hf).1,p1.1,p2,fun m' hm' hn'=>?_⟩;have hv:=hE.one _ _ (h.mem k v p3) hm' (p5.trans hn'.symm);refine ⟨⟨k,v,p3,hv⟩,fun ⟨j2,y2,hy2,e2,hs2⟩=>p4 ?_⟩;have:j2=k:=h.inj j2 k y2 v hy2 p3 (by rw [e2,hv]);subst this;rw [p3] at hy2;obtain rfl:=Option.some.inj hy2;exact hs2) hh ⟨i,x,hi,rfl⟩
 rw [Vh h hi] at key;exact key
theorem EB (m:M3) (ls:List M.L4):(∀ x∈ls,x.tx.size<=1048576)->Wp (Xc m ls)/\(Xc m ls).EL.length<=ls.length:=
 Ao (P:=fun ls=>(∀ x∈ls,x.tx.size<=1048576)->Wp (Xc m ls)/\(Xc m ls).EL.length<=ls.length) (fun _=>⟨pq,Nat.le_refl _⟩) (fun ls x ih h=>by
  obtain ⟨h1,h2⟩:=ih (fun y hy=>h y (List.mem_append_left _ hy));rw [Rf];refine ⟨yD h1 (h x U0),?_⟩;have:=WB (tl:=m.tl) (ar:=m.ar) (s:=Xc m ls) (r:=⟨x.cd,x.tx⟩);simp;omega) ls
structure dC (f:Fx) (E:Env) (g g':Gh) (w w':World):Prop where
 RP:U_ f g' w'
 pU:Md E g' none
 ext:∀ (j:Nat) y,g.rs[j]?=some y->∃ y',g'.rs[j]?=some y'/\y'.k=y.k
 Zd:Zd g'<=Zd g
 bl:Below f.base w w'
 kp:∀ k,k<w.heap.size->g.ow k=none->w'.heap[k]?=w.heap[k]?/\g'.ow k=none
def mJ (f:Fx) (E:Env) (n:Nat):Prop:=∀ (g:Gh) (i:Nat) (x:Ru) (w:World),U_ f g w->Md E g (some i)->g.rs[i]?=some x->15<=x.ls.length+n->
 Calls prog 80 #[pt f.kb,pt x.k.B,(tn x.k.m x.ls).v,x.k.go] w fun e w'=>e=.returned (.tuple #[])/\∃ g',dC f E g g' w w'
def xI (f:Fx) (E:Env) (n:Nat):Prop:=∀ (g:Gh) (i:Nat) (x:Ru) (r:R2) (w:World),U_ f g w->Md E g (some i)->g.rs[i]?=some x->15<=x.ls.length+n->Ro E (tn x.k.m x.ls) r->
 Calls prog 78 #[.agg #[.int .i64 r.code,.string r.tx],pt x.k.c5,pt x.k.ML,pt x.k.FM,pt x.k.c2,pt x.k.fM] w fun e w'=>e=.returned (.tuple #[])/\∃ g',dC f E g g' w w'/\Zd g'<Zd g
theorem XF (h:U_ f g w) {F:Ru->Ru} (hF:∀ x,∃ s,F x={ x with GL:=s }):U_ f { g with rs:=g.rs.map F } w:=by
 have hk:∀ x,(F x).k=x.k:=fun x=>by obtain ⟨s,e⟩:=hF x;rw [e]
 have hks:(g.rs.map F).map (·.k)=g.ks:=by rw [List.map_map];exact List.map_congr_left fun x _=>hk x
 have hget:∀ (j:Nat) y,(g.rs.map F)[j]?=some y->∃ z s,g.rs[j]?=some z/\y={ z with GL:=s }:=fun j y e=>by
  obtain ⟨z,h1,h2⟩:=map_some e;obtain ⟨s,hs⟩:=hF z;exact ⟨z,s,h1,h2.trans hs⟩
 exact {
  bl:=h.bl
  rM:=h.rM
  kb:=h.kb
  jM:=h.jM
  mr:=h.mr
  ar:=h.ar
  YM:=h.YM
  mw:=h.mw
  aw:=h.aw
  nN:=h.nN
  pl:=h.pl
  BN:=h.BN
  rd:=by show V7 w f.base 1 g.rv (g.q.map (It.v ((g.rs.map F).map (·.k))));rw [hks];exact h.rd
  ord:=h.ord
  its:=fun it hq=>by show it.At ((g.rs.map F).map (·.k)) w/\_;rw [hks];exact h.its it hq
  ru:=fun j y e=>by
   obtain ⟨z,s,hz,rfl⟩:=hget j y e;have:=h.ru j z hz;exact ⟨this.hB,this.h7,this.h8,this.h9,this.h2,this.h10,this.rw,this.lk⟩
  kM:=fun j y e=>by
   obtain ⟨z,s,hz,rfl⟩:=hget j y e;exact h.kM j z hz
  wr:=fun j y e=>by
   obtain ⟨z,s,hz,rfl⟩:=hget j y e;show w.ownsRow f.base 145 1 z.wv z.wl.length (z.wl.map fun j=>(((g.rs.map F).map (·.k)).getD j Og).go);rw [hks];exact h.wr j z hz
  oN:=fun j y e=>by
   obtain ⟨z,s,hz,rfl⟩:=hget j y e;exact h.oN j z hz
  DN:=fun j y e k hk=>by
   obtain ⟨z,s,hz,rfl⟩:=hget j y e;show k<(g.rs.map F).length;rw [List.length_map];exact h.DN j z hz k hk
  key:=fun j y e=>by
   obtain ⟨z,s,hz,rfl⟩:=hget j y e;exact h.key j z hz
  only:=fun n hn=>by
   obtain ⟨j,z,hz,e⟩:=h.only n hn;exact ⟨j,F z,Zg hz,by rw [hk];exact e⟩
  kw:=fun j y e=>by
   obtain ⟨z,s,hz,rfl⟩:=hget j y e;exact h.kw j z hz
  oO:=fun n hn=>by
   obtain ⟨j,z,hz,e⟩:=h.oO n hn;exact ⟨j,F z,Zg hz,by rw [hk];exact e⟩
  inj:=fun j j' y y' e e' hn=>by
   obtain ⟨z,s,hz,rfl⟩:=hget j y e;obtain ⟨z',s',hz',rfl⟩:=hget j' y' e';exact h.inj j j' z z' hz hz' hn
  TM:=fun it hq=>by show it.i<(g.rs.map F).length;rw [List.length_map];exact h.TM it hq }
theorem Ia.gh (h:Ia base kb x t s w) (e1:x'.k=x.k) (e2:x'.ls=x.ls) (e3:x'.lv=x.lv) (e4:x'.v1=x.v1) (e5:x'.v2=x.v2) (e6:x'.r=x.r) (e7:x'.wt=x.wt):Ia base kb x' t s w:=by
 obtain ⟨k,ls,lv,v1,v2,wv,st,wt,r,GL,wl⟩:=x;obtain ⟨k',ls',UM,VP,QO,wv',st',wt',r',a4j,vP⟩:=x';dsimp only at e1 e2 e3 e4 e5 e6 e7;subst e1 e2 e3 e4 e5 e6 e7;exact ⟨h.hB,h.h7,h.h8,h.h9,h.h2,h.h10,h.rw,h.lk⟩
end Go.Proofs.YtdpoaadafcaffaaGreatDoor
