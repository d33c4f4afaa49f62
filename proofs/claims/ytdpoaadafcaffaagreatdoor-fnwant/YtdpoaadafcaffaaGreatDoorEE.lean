import Derived.Test.YtdpoaadafcaffaaGreatDoorDX
import Derived.Test.YtdpoaadafcaffaaGreatDoorZ51
set_option linter.unusedVariables false
set_option maxHeartbeats 8000000
set_option maxRecDepth 100000
namespace Go.Proofs.YtdpoaadafcaffaaGreatDoor
open Proofs.Tryz
open Go.RowKit
open G (Q6)
open G.T (F2 L6 Y3 U3)
variable {w w':World} {cap g:Nat} {fs:List F2}
open Classical in
noncomputable def Nz (kb mr mw:Nat) (pv:Value) (k:Nat):Option Ow:=if k=kb then some .kb else if k=mr then some .mr else if k=mw then some .mw else if pv.ownBlock=some k then some .pl else none
noncomputable def bK (kb mr mw:Nat) (pv:Value):Gh:=⟨[],[],.slice none 0 0,Nz kb mr mw pv,[],[]⟩
theorem lI {a:Option Addr} {kb mr mw:Nat} {pv:Value} {ms:List M3} (hk:Cl w' kb 90 [.slice a fs.length cap,pv,.map (some mr),.map (some mw),.slice none 0 0]) (h1:w'.ownsMap prog 9 Z8 mr 0 (mapD [])) (h2:w'.ownsMap prog 9 Z8 mw 0 (mapD [])) (hp:w'.ownsRow w.heap.size 35 3 pv ms.length (G.F5 ms)) (l1:w.heap.size<=kb) (l2:w.heap.size<=mr) (l3:w.heap.size<=mw) (hne:mr≠mw) (hb:Below w.heap.size w w'):U_ ⟨w,kb,mr,mw,a,cap,fs,pv,ms⟩ (bK kb mr mw pv) w':=by
 have n1:=Cf (hk.cell 0) (Ee h1).choose_spec.choose_spec;have n2:=Cf (hk.cell 0) (Ee h2).choose_spec.choose_spec;have hpl:∀ k,pv.ownBlock=some k->k≠kb/\k≠mr/\k≠mw/\w.heap.size<=k:=fun k e=>by
  obtain ⟨hge,cur,OL⟩:=J2 hp e;refine ⟨j6 OL hk J3,fun c=>?_,fun c=>?_,hge⟩
  · obtain ⟨es,ck,hm⟩:=Ee h1
    rw [c,hm] at OL;cases OL
  obtain ⟨es,ck,hm⟩:=Ee h2;rw [c,hm] at OL;cases OL
 exact {
  bl:=hb
  rM:=fun k o e=>by
   show w.heap.size<=k;have e:Nz kb mr mw pv k=some o:=e;unfold Nz at e;split at e
   · omega
   split at e
   · omega
   split at e
   · omega
   split at e
   · exact (hpl k (by assumption)).2.2.2
   cases e
  kb:=hk
  jM:=by show Nz kb mr mw pv kb=_;unfold Nz;rw [if_pos rfl]
  mr:=h1
  ar:=List.Pairwise.nil
  YM:=by show Nz kb mr mw pv mr=_;unfold Nz;rw [if_neg n1.symm,if_pos rfl]
  mw:=h2
  aw:=List.Pairwise.nil
  nN:=by show Nz kb mr mw pv mw=_;unfold Nz;rw [if_neg n2.symm,if_neg hne.symm,if_pos rfl]
  pl:=hp
  BN:=fun k e=>by
   obtain ⟨q1,q2,q3,_⟩:=hpl k e;show Nz kb mr mw pv k=_;unfold Nz;rw [if_neg q1,if_neg q2,if_neg q3,if_pos e]
  rd:=.inl ⟨rfl,rfl⟩
  ord:=fun k e=>by cases e
  its:=fun it h=>by cases h
  ru:=fun i x e=>by cases e
  kM:=fun i x e=>by cases e
  wr:=fun i x e=>by cases e
  oN:=fun i x e=>by cases e
  DN:=fun i x e=>by cases e
  key:=fun i x e=>by cases e
  only:=fun n h=>absurd rfl h
  kw:=fun i x e=>by cases e
  oO:=fun n h=>absurd rfl h
  inj:=fun i j x y e=>by cases e
  TM:=fun it h=>by cases h }
theorem SH (E:Env) (kb mr mw:Nat) (pv:Value):Md E (bK kb mr mw pv) none:=
 ⟨(fun i x e=>by cases e),(fun i j x y e=>by cases e),(fun i x e=>by cases e),(fun i x e=>by cases e),(fun i x e=>by cases e),(fun i x e=>by cases e),(fun i x e=>by cases e),List.nodup_nil,(fun i h=>by cases h),(fun i r b7 b5 h=>by cases h),(fun i x j e=>by cases e),(fun j y e=>by cases e)⟩
theorem VK (a:Option Addr) (cap:Nat) (fs:List F2) (ms:List M3) (nm:ByteArray) (w:World) (hat:U3 w a fs) (ht:Y3 fs) (hp:Q6 fs ms) (hn:Y1 nm.data.toList=true) (hv:G.ng w) (hsh:Z5 w) (hmx:N8 w) (MQ:10<=w.heap.size):
 Calls prog 5 #[.agg #[.slice a fs.length cap],.string nm] w fun e w'=>(∃ v,e=.returned v/\∃ xs,V_ w.heap.size v xs w'/\gm (o7 fs ms) nm (xs.map (·.d)))/\Below w.heap.size w w':=by
 have HAT:=Q0 hat;have HT:=Q0 ht;have HP:=Q0 hp;have HV:=Q0 hv;have JN:=Q0 hsh;have sP:=Q0 hmx;have HNM:=Q0 hn;have kW:Hid ((o7 fs ms).ms.length<=30):=Q0 (by show (ms.map toM).length<=30;rw [List.length_map];exact Ba hp);have hfl:fs.length<=1048576:=by have:=ht.1;omega
 have HF:=Q0 (Bh ht);have hns:=z_ hn;have hB0:∀ o1,Below w.heap.size w (w.alloc o1):=fun o1=>bA;clear hat ht hp hv hsh hmx;go_enter func5,ntmps5
 go_wp2_with fail
 refine (G.T.c16 a cap fs _ hfl HF.out (G.T.X0 HAT.out (hB0 _))).mono ?_;rintro e w1 ⟨⟨b,rfl,hb⟩,hb1⟩;obtain rfl:b=true:=hb.2 HT.out;have hB1:=(hB0 _).trans (hb1.mono U0);have t1:w1.cell? ⟨w.heap.size,0,none⟩=some (.slice a fs.length cap):=(hb1.cell (p:=⟨w.heap.size,0,none⟩) U0).trans (by simp [go_sem]);clear hb hb1 hB0
 go_wp2_with fail
 refine (c17 nm w1 O0).mono ?_;rintro e w2 ⟨he,hw2⟩;obtain rfl:=hw2;have e':e=.returned (.bool true):=by rw [he];exact congrArg (fun b=>Ending.returned (.bool b)) hn
 subst e';clear he
 go_wp2_with fail
 refine (c19 a cap fs _ hfl HF.out (G.T.X0 HAT.out hB1) (HV.out.below hB1)).mono ?_;rintro e w3 ⟨kb,mr,mw,pv,ms',rfl,hk,hm1,hm2,hrow,hpt,l1,l2,l3,hne,hb3⟩;obtain rfl:=G.Bc HP.out hpt;rw [show pt kb=.pointer (some ⟨kb,0,none⟩) from rfl];have HFK:Hid (Rx ⟨w2,kb,mr,mw,a,cap,fs,pv,ms⟩ (o7 fs ms)):=Q0 ⟨by show 10<=w2.heap.size;have:=hB1.size;omega,Ja JN.out hB1 MQ,je sP.out hB1 MQ,G.T.X0 HAT.out hB1,HT.out,HP.out,rfl⟩;have hs0:=lI (a:=a) (cap:=cap) (fs:=fs) hk hm1 hm2 hrow l1 l2 l3 hne hb3;have HC:=Q0 (c18 _ _ HFK.out kW.out nm _ w3 hs0 (SH (o7 fs ms) kb mr mw pv) rfl HNM.out);have a1O:Hid (Below w2.heap.size w2 w3):=Q0 hb3;clear hs0 hk hm1 hm2 hrow hpt l1 l2 l3 hne hb3 t1
 go_wp2_with fail
 refine HC.out.mono ?_;rintro e w4 ⟨v,rfl,xs,hdr,his,hb4⟩;have hB4:=hB1.trans ((show Below w2.heap.size w2 w4 from hb4).mono hB1.size);have hle:=hB1.size;have HE:Hid (∃ xs,V_ w.heap.size v xs w4/\gm (o7 fs ms) nm (xs.map (·.d))):=Q0 ⟨xs,⟨V4 hdr.row hle,fun x hx=>V4 (hdr.lk x hx) hle,hdr.ne⟩,his⟩;obtain ⟨va,vc,rfl⟩:=X9 hdr.row;have mM:=Q0 hB4;clear hdr his hb4 hB4 HC a1O;go_wp2;go_ret;exact ⟨⟨_,rfl,HE.out⟩,mM.out⟩
theorem aL (a:Option Addr) (cap:Nat) (fs:List F2) (nm:ByteArray) (w:World) (hl:fs.length<=1048576) (hs:∀ i,(fs.getD i L6).le 1048576) (hat:U3 w a fs) (hns:nm.size<=1048576) (hno:¬ Y3 fs\/Y1 nm.data.toList=false):
 Calls prog 5 #[.agg #[.slice a fs.length cap],.string nm] w fun e w'=>(∃ v,e=.returned v/\V_ w.heap.size v [] w')/\Below w.heap.size w w':=by
 have HAT:=Q0 hat;have HF:=Q0 hs;have HN:=Q0 hno;have hB0:∀ o1,Below w.heap.size w (w.alloc o1):=fun o1=>bA;clear hat hs hno;go_enter func5,ntmps5
 go_wp2_with fail
 refine (G.T.c16 a cap fs _ hl HF.out (G.T.X0 HAT.out (hB0 _))).mono ?_;rintro e w1 ⟨⟨b,rfl,hb⟩,hb1⟩;have HE:Hid (V_ w.heap.size (.slice none 0 0) [] w1/\Below w.heap.size w w1):=⟨⟨World.ownsRow_nil _ _ _ _,(fun x h=>by cases h),List.Pairwise.nil⟩,(hB0 _).trans (hb1.mono U0)⟩;have yP:=Q0 hb;clear hb hb1 hB0;cases b
 · go_wp2
   go_ret;exact ⟨⟨_,rfl,HE.out.1⟩,HE.out.2⟩
 have hn:Y1 nm.data.toList=false:=by
  rcases HN.out with h | h
  · exact absurd (yP.out.1 rfl) h
  exact h
 go_wp2_with fail
 refine (c17 nm w1 O0).mono ?_;rintro e w2 ⟨he,rfl⟩;have e':e=.returned (.bool false):=by rw [he];exact congrArg (fun b=>Ending.returned (.bool b)) hn
 subst e';clear he;go_wp2;go_ret;exact ⟨⟨_,rfl,HE.out.1⟩,HE.out.2⟩
theorem Ni (fs:List F2):∃ ms,Q6 fs ms:=by
 by_cases ht:Y3 fs;rotate_left
 · exact ⟨[],.inl ⟨ht,rfl⟩⟩
 by_cases hf:G.Ae fs G.Bi
 · exact ⟨[],.inr (.inl ⟨ht,hf,rfl⟩)⟩
 obtain ⟨i,hi,hn⟩:∃ i,i<fs.length/\(fs.getD i L6).nm=G.Bi:=Classical.byContradiction fun h=>hf fun i hi e=>h ⟨i,hi,e⟩;obtain ⟨ks,ok,hp⟩:∃ ks ok,G.l9 (fs.getD i L6).tx.data.toList ks ok:=by
  by_cases h:∃ js,G.d_ js=true/\js.flatMap G.I7=(fs.getD i L6).tx.data.toList/\(fs.getD i L6).tx.data.toList.length<=300
  · obtain ⟨js,h1,h2,h3⟩:=h
    exact ⟨js,true,fun _=>⟨h1,h2,h3⟩,fun c=>by cases c⟩
  exact ⟨[],false,(fun c=>by cases c),fun _=>⟨rfl,fun js h1 h2=>Nat.lt_of_not_le fun h3=>h ⟨js,h1,h2,h3⟩⟩⟩
 by_cases h:ok=true/\G.Ub fs ks
 · exact ⟨ks,.inr (.inr ⟨ht,i,hi,hn,ks,ok,hp,.inl ⟨h.1,h.2,rfl⟩⟩)⟩
 exact ⟨[],.inr (.inr ⟨ht,i,hi,hn,ks,ok,hp,.inr ⟨h,rfl⟩⟩)⟩
end Go.Proofs.YtdpoaadafcaffaaGreatDoor
