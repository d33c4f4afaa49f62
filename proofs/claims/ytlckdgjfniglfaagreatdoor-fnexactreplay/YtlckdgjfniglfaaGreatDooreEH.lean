import Derived.Test.YtlckdgjfniglfaaGreatDoortW3
set_option linter.unusedVariables false
set_option maxHeartbeats 8000000
set_option maxRecDepth 100000
namespace Go.Proofs.YtlckdgjfniglfaaGreatDoor
open Proofs.Tryz
open Go.RowKit
def ifE (x:N10) (ai:Option Addr) (ci:Nat):Value:=if x.kd=1 then .iface 103 (.int .i64 x.ep) else if x.kd=2 then .iface 104 (.agg #[.string x.fn,.string x.ft]) else if x.kd=3 then .iface 105 (.string x.fn) else if x.kd=4 then .iface 107 (.agg #[.string x.km.nm,.string x.km.tl,.string x.km.ar,.slice ai x.ls.length ci,.int .i64 x.cd,.string x.tx]) else .iface 110 (.agg #[])
def ShE (x:N10):Prop:=(∃ n,x=eEpoch n)\/(∃ a b,x=eFile a b)\/(∃ a,x=eDrop a)\/(∃ m ls c t,x=eRan m ls c t)\/x=eClear
theorem LkOwn.bel {w w':World} {B:Nat} {ao:Option Addr} {is:List L4} (h:LkOwn w B ao is) (hb:Below w.heap.size w w'):LkOwn w' B ao is:=
 ⟨lks_below h.at' hb,h.own.imp id fun ⟨g,h1,h2,h3⟩=>⟨g,h1,h2,h3.below hb⟩⟩
def Is35 (L:List (List UInt8)) (w w':World) (e:Ending):Prop:=(∃ v,e=.returned (.tuple #[v,.bool false])/\∀ z,RdE L z false)\/(∃ (x:N10) (ai:Option Addr) (ci:Nat),e=.returned (.tuple #[ifE x ai ci,.bool true])/\RdE L x true/\ShE x/\x.le 1048576/\LkOwn w' w.heap.size ai x.ls)
theorem is35_no {L:List (List UInt8)} (h:∀ z,RdE L z false) (w w':World):Is35 L w w' (.returned (.tuple #[.nilIface,.bool false])):=.inl ⟨_,rfl,h⟩
theorem c81 (f p:List UInt8) (b:List (List UInt8)) (g o cp:Nat) (w:World) (hp:restOf f=p) (hw:wordOf f=wRan) (hs:p.length<=16000) (hmx:MaxAt w) (hb:b.length<=16001) (hcp:b.length<=cp) (hln:LinesIn w g o b) (hbs:∀ i,i<b.length->(b.getD i []).length<=16000):
 Calls prog 81 #[.string (ofL p),.slice (some ⟨g,o,none⟩) b.length cp] w fun e w'=>Is35 (f::b) w w' e/\Below w.heap.size w w':=by
 rcases List.eq_nil_or_concat b with hbe | ⟨bi,last,hbe⟩
 · subst hbe
   have HN:Hid (∀ z,RdE [f] z false):=fun z=>rdE_ran0 hw z;go_enter func81,ntmps81;go_wp2;go_ret2;exact ⟨is35_no HN.out _ _,Below.refl _ _⟩
 · rw [List.concat_eq_append] at hbe
   have HL:Hid (LinesIn w g o b):=hln;have hlen:b.length=bi.length+1:=by rw [hbe];simp
   have hln1:LinesIn w g o bi:=⟨hln.1,fun i hi=>(hln.2 i om_).trans (by rw [hbe];simp only [List.getD_eq_getElem?_getD];rw [List.getElem?_append_left hi])⟩;have cl:w.cell? ⟨g,o+bi.length,none⟩=some (.string (ofL last)):=(hln.2 bi.length om_).trans (by rw [hbe];simp only [List.getD_eq_getElem?_getD];rw [List.getElem?_append_right lr_];simp);have hbs1:∀ i,i<bi.length->(bi.getD i []).length<=16000:=fun i hi=>by
    have h:=hbs i om_;rw [hbe] at h;simp only [List.getD_eq_getElem?_getD] at h ⊢;rw [List.getElem?_append_left hi] at h;exact h
   have hll:last.length<=16000:=by
    have h:=hbs bi.length om_;rw [hbe] at h;simp only [List.getD_eq_getElem?_getD] at h;rw [List.getElem?_append_right lr_] at h;simpa using h
   have hg:=hln.1;clear hln hbs;have hne:¬ (b.length=0):=om_;have hbl:bi.length<=16000:=om_;have hcp2:bi.length+1<=cp:=om_;rw [hlen];go_enter func81,ntmps81;have hwr:wrap64 (bi.length:Int)=(bi.length:Int):=IntWalk.wrap64_in _ om_;have hRan:=fun (m:M3) (ls:List L4) (c:Int) (t:ByteArray) (o1 o2 o3:Bool) hm hl hr=>rdE_ran (f:=f) (g:=last) (b:=bi) (m:=m) (ls:=ls) (c:=c) (t:=t) (o1:=o1) (o2:=o2) (o3:=o3) hw hm hl hr;rw [hp,<- hbe] at hRan;clear hbe hp hw
   go_wp2_with fail
   refine (c116 p _ hs hmx).mono ?_;rintro e w1 ⟨⟨m,o1,rfl,hm⟩,hb1⟩;have hm1:MaxAt w1:=max_below hmx hb1;have hz1:w.heap.size<=w1.heap.size:=hb1.size;unfold M3.v;have hB1a:=fun ob=>hb1.alloc hz1 ob;have cl1:=fun ob=>((hB1a ob).cell (p:=⟨g,o+bi.length,none⟩) hg).trans cl;have hcc:¬ cp<bi.length:=om_
   go_wp2_with fail
   refine (c117 g o cp bi _ (max_below hmx (hB1a _)) (linesIn_below hln1 (hB1a _)) hbs1 om_).mono ?_;rintro e w2 ⟨⟨ls,o2,ao,ac,rfl,hrl,hlle,hlc,hlk⟩,hb2⟩;have hz1a:(w1.alloc (.cells #[.string m.nm,.string m.tl,.string m.ar] 42)).heap.size=w1.heap.size+1:=sm_;have hz2:w1.heap.size+1<=w2.heap.size:=by have h:=hb2.size;rw [hz1a] at h;exact h
   have hB2:Below w.heap.size w w2:=(hB1a _).trans (hb2.mono (by rw [hz1a];omega));have cl2:w2.cell? ⟨g,o+bi.length,none⟩=some (.string (ofL last)):=(hb2.cell (p:=⟨g,o+bi.length,none⟩) (by rw [hz1a];show g<_;omega)).trans (cl1 _);have m0:w2.cell? ⟨w1.heap.size,0,none⟩=some (.string m.nm):=(hb2.cell (p:=⟨w1.heap.size,0,none⟩) (by rw [hz1a];exact Nat.lt_succ_self _)).trans (by simp [go_sem]);have m1:w2.cell? ⟨w1.heap.size,1,none⟩=some (.string m.tl):=(hb2.cell (p:=⟨w1.heap.size,1,none⟩) (by rw [hz1a];exact Nat.lt_succ_self _)).trans (by simp [go_sem]);have m2:w2.cell? ⟨w1.heap.size,2,none⟩=some (.string m.ar):=(hb2.cell (p:=⟨w1.heap.size,2,none⟩) (by rw [hz1a];exact Nat.lt_succ_self _)).trans (by simp [go_sem]);have hlk2:LkOwn w2 w.heap.size ao ls:=hlk.mono (by rw [hz1a];omega);have hm2:MaxAt w2:=max_below hmx hB2;have hrs:=rest_small last;clear hb2 cl1 hlk hm1
   go_wp2_with fail
   refine (c75wE last _ om_ hm2).mono ?_;rintro e w3 ⟨⟨y,rfl⟩,hb3⟩;have hB3:Below w.heap.size w w3:=bT_ hB2 hb3;have hm3:MaxAt w3:=max_below hmx hB3;have hlk3:=LkOwn.bel hlk2 hb3;have n0:=(hb3.cell (p:=⟨w1.heap.size,0,none⟩) (by show w1.heap.size<_;omega)).trans m0;have n1:=(hb3.cell (p:=⟨w1.heap.size,1,none⟩) (by show w1.heap.size<_;omega)).trans m1;have n2:=(hb3.cell (p:=⟨w1.heap.size,2,none⟩) (by show w1.heap.size<_;omega)).trans m2;have hz3:w2.heap.size<=w3.heap.size:=hb3.size;clear hb3 m0 m1 m2 cl2 hlk2
   go_wp2_with fail
   refine (c118 (restOf last) _ om_ hm3).mono ?_;rintro e w4 ⟨⟨c,t,o3,rfl,hrr,hts⟩,hb4⟩;have hB4:Below w.heap.size w w4:=bT_ hB3 hb4;have hlk4:=LkOwn.bel hlk3 hb4;have p0:=(hb4.cell (p:=⟨w1.heap.size,0,none⟩) (by show w1.heap.size<_;omega)).trans n0;have p1:=(hb4.cell (p:=⟨w1.heap.size,1,none⟩) (by show w1.heap.size<_;omega)).trans n1;have p2:=(hb4.cell (p:=⟨w1.heap.size,2,none⟩) (by show w1.heap.size<_;omega)).trans n2;have hz4:w3.heap.size<=w4.heap.size:=hb4.size;have hR:=hRan m ls c t o1 o2 o3 hm hrl hrr;have hKS:o1=true->m.le 1048576:=fun h=>by
    have a:=okM_len (hm.1 h).1;simp only [Array.length_toList,ByteArray.size_data] at a;exact ⟨om_,om_,om_⟩
   have hgv:((ofL (wordOf last)).toList==[103,97,118,101])=decide (wordOf last=wGave):=by
    rw [ByteArray.toList_eq,ofL_listE];by_cases h:wordOf last=wGave
    · rw [decide_eq_true h,h];rfl
    · rw [decide_eq_false h];exact beq_eq_false_iff_ne.2 h
   have hNo:(o1=false\/o2=false\/decide (wordOf last=wGave)=false\/o3=false)->Hid (∀ z,RdE (f::b) z false):=fun h=>hR.2 (fun k=>by
    rcases h with h | h | h | h
    · rw [h] at k;cases k.1
    · rw [h] at k;cases k.2.1
    · rw [decide_eq_false_iff_not] at h;exact h k.2.2.1
    · rw [h] at k;cases k.2.2.2)
   have hYes:o1=true->o2=true->decide (wordOf last=wGave)=true->o3=true->Hid (RdE (f::b) (eRan m ls c t) true):=fun h1 h2 h3 h4=>hR.1 h1 h2 (of_decide_eq_true h3) h4;clear hb4 hRan hR hm hrl hrr n0 n1 n2 hlk3;generalize decide (wordOf last=wGave)=gv at*;generalize ofL (wordOf last)=wl at*;cases o1
   · have HN:=hNo (.inl rfl)
     clear hNo hYes;go_wp2
     all_goals go_ret2
     all_goals exact ⟨is35_no HN.out _ _,by first | exact hB4 | exact hB4.alloc hB4.size _⟩
   · cases o2
     · have HN:=hNo (.inr (.inl rfl))
       clear hNo hYes;go_wp2
       all_goals go_ret2
       all_goals exact ⟨is35_no HN.out _ _,by first | exact hB4 | exact hB4.alloc hB4.size _⟩
     · cases gv
       · have HN:=hNo (.inr (.inr (.inl rfl)))
         clear hNo hYes;go_wp2
         all_goals go_ret2
         all_goals exact ⟨is35_no HN.out _ _,by first | exact hB4 | exact hB4.alloc hB4.size _⟩
       · cases o3
         · have HN:=hNo (.inr (.inr (.inr rfl)))
           clear hNo hYes;go_wp2
           all_goals go_ret2
           all_goals exact ⟨is35_no HN.out _ _,by first | exact hB4 | exact hB4.alloc hB4.size _⟩
         · have HN:=hYes rfl rfl rfl rfl
           have HKS:=hKS rfl;clear hNo hYes hKS;have q0:=past (p:=⟨w1.heap.size,0,none⟩) (by show w1.heap.size<_;omega) p0;have q1:=past (p:=⟨w1.heap.size,1,none⟩) (by show w1.heap.size<_;omega) p1;have q2:=past (p:=⟨w1.heap.size,2,none⟩) (by show w1.heap.size<_;omega) p2;go_wp2;go_ret2;exact ⟨.inr ⟨eRan m ls c t,ao,ac,rfl,HN.out,.inr (.inr (.inr (.inl ⟨m,ls,c,t,rfl⟩))),⟨Nat.zero_le _,Nat.zero_le _,HKS,⟨by show ls.length<=1048576;omega,hlle⟩,hts⟩,hlk4.bel bA_⟩,hB4.alloc hB4.size _⟩
theorem z10_le (x:N10) (h1:x.fn.size<=1048576) (h2:x.ft.size<=1048576) (h3:x.km=m3z) (h4:x.ls=[]) (h5:x.tx=⟨#[]⟩):x.le 1048576:=by
 refine ⟨h1,h2,?_,?_,?_⟩
 · rw [h3];exact ⟨Nat.zero_le _,Nat.zero_le _,Nat.zero_le _⟩
 · rw [h4];exact ⟨Nat.zero_le _,fun _=>⟨Nat.zero_le _,Nat.zero_le _⟩⟩
 · rw [h5];exact Nat.zero_le _
theorem word_beq (l w:List UInt8):((ofL (wordOf l)).toList==w)=decide (wordOf l=w):=by
 rw [ByteArray.toList_eq,ofL_listE];by_cases h:wordOf l=w
 · rw [decide_eq_true h,h];simp
 · rw [decide_eq_false h];exact beq_eq_false_iff_ne.2 h
theorem c75h (l:List UInt8) (w:World) (hs:l.length<=1048700) (hm:MaxAt w):
 Calls prog 75 #[.string (ofL l),.string ⟨#[32]⟩] w fun e w'=>e=.returned (.tuple #[.string (ofL (wordOf l)),.string (ofL (restOf l)),.bool (decide ((32:UInt8)∈l))])/\Below w.heap.size w w':=by
 obtain ⟨_,m,hm⟩:=hm;refine (Tryz.strings_Cut (ofL l) ⟨#[32]⟩ m w (by rw [ofL_size];omega) hm).mono ?_;rintro e w' ⟨rfl,n,rfl⟩;refine ⟨?_,below_drewN n⟩;have h3:(Lib.cut l [32]).2.2=decide ((32:UInt8)∈l):=by
  unfold Lib.cut;rcases idx_one l with ⟨h,hn⟩ | ⟨i,h,hm,_,_⟩
  · rw [h,if_neg om_,decide_eq_false hn]
  · rw [h,if_pos om_,decide_eq_true hm]
 rw [<- cut_32,<- cut_32b,<- h3];rfl
theorem c43 (f:List UInt8) (b:List (List UInt8)) (g:Nat) (w:World) (hs:f.length<=16000) (hmx:MaxAt w) (hb:b.length<=16001) (hln:LinesIn w g 0 (f::b)) (hbs:∀ i,i<b.length->(b.getD i []).length<=16000):
 Calls prog 43 #[.slice (some ⟨g,0,none⟩) (b.length+1) (b.length+1)] w fun e w'=>Is35 (f::b) w w' e/\Below w.heap.size w w':=by
 have c0:w.cell? ⟨g,0,none⟩=some (.string (ofL f)):=hln.2 0 sm_;have hlnb:LinesIn w g 1 b:=⟨hln.1,fun i hi=>by
  have h:=hln.2 (i+1) so_;rw [Nat.zero_add] at h;rw [Nat.add_comm 1 i,h];rfl⟩
 have hg:=hln.1;obtain ⟨o1,ho1,hlno⟩:∃ o1,(if b=[] then some (⟨g,0,none⟩:Addr) else some ⟨g,1,none⟩)=some ⟨g,o1,none⟩/\LinesIn w g o1 b:=by
  by_cases hb0:b=[]
  · exact ⟨0,by rw [if_pos hb0],hg,fun i hi=>by subst hb0;cases hi⟩
  · exact ⟨1,by rw [if_neg hb0],hlnb⟩
 have hrs:=rest_small f;have HBS:Hid (∀ i,i<b.length->(b.getD i []).length<=16000):=hbs;clear hln hlnb hbs;go_enter func43,ntmps43
 go_wp2_with fail
 refine (c75h f _ om_ hmx).mono ?_;rintro e w1 ⟨rfl,hb1⟩;have hm1:MaxAt w1:=max_below hmx hb1;have hl1:=linesIn_below hlno hb1;have b1:=word_beq f [114,97,110];have b2:=word_beq f [101,112,111,99,104];have b3:=word_beq f [102,105,108,101];have b4:=word_beq f [100,114,111,112];have b5:=word_beq f [99,108,101,97,114];by_cases hw1:wordOf f=wRan
 · rw [show (decide (wordOf f=[114,97,110]))=true from decide_eq_true hw1] at b1
   have h44:=fun u=>c81 f (restOf f) b g o1 b.length u rfl hw1 om_;clear b2 b3 b4 b5;generalize ofL (wordOf f)=wd at*;have hif:¬ ((b.length:Int)+1<1):=om_
   go_wp2_with fail
   refine (h44 _ hm1 hb lr_ hl1 HBS.out).mono ?_;rintro e w2 ⟨hr,hb2⟩;have hB2:Below w.heap.size w w2:=bT_ hb1 hb2;rcases hr with ⟨v,rfl,hn⟩ | ⟨x,ai,ci,rfl,h1,h2,h3,h4⟩
   · have HN:Hid (∀ z,RdE (f::b) z false):=hn
     clear hn;go_wp2;go_ret2;exact ⟨.inl ⟨v,rfl,HN.out⟩,hB2⟩
   · have HN:Hid (RdE (f::b) x true/\ShE x/\x.le 1048576/\LkOwn w2 w.heap.size ai x.ls):=⟨h1,h2,h3,h4.mono hb1.size⟩
     clear h1 h2 h3 h4;go_wp2;go_ret2;exact ⟨.inr ⟨x,ai,ci,rfl,HN.out.1,HN.out.2.1,HN.out.2.2.1,HN.out.2.2.2⟩,hB2⟩
 · rw [show (decide (wordOf f=[114,97,110]))=false from decide_eq_false hw1] at b1
   by_cases hbe:b=[]
   · subst hbe
     clear hl1 hlno ho1 HBS;by_cases hw2:wordOf f=wEpoch
     · rw [show (decide (wordOf f=[101,112,111,99,104]))=true from decide_eq_true hw2] at b2
       have HN:Hid (RdE [f] (eEpoch (rnM 200 (restOf f))) (numM 200 (restOf f))):=rdE_epoch hw2;clear b3 b4 b5 hw1 hw2;generalize ofL (wordOf f)=wd at*
       go_wp2_with fail
       refine (c76m 200 (ofL (restOf f)) _ (by rw [ofL_size];omega) om_ om_).mono ?_;rintro e w2 ⟨rfl,rfl⟩;rw [ofL_listE];cases hn:numM 200 (restOf f)
       · rw [hn] at HN
         go_wp2;go_ret2;exact ⟨.inl ⟨_,rfl,fun z=>⟨fun y hy e=>absurd (HN.out.1 y hy e).1 dc_,(fun h=>by cases h)⟩⟩,hb1⟩
       · rw [hn] at HN
         go_wp2;go_ret2;exact ⟨.inr ⟨eEpoch (rnM 200 (restOf f)),none,0,rfl,HN.out,.inl ⟨_,rfl⟩,z10_le _ (Nat.zero_le _) (Nat.zero_le _) rfl rfl rfl,⟨.inl rfl,.inl rfl⟩⟩,hb1⟩
     · rw [show (decide (wordOf f=[101,112,111,99,104]))=false from decide_eq_false hw2] at b2
       by_cases hw3:wordOf f=wFile
       · rw [show (decide (wordOf f=[102,105,108,101]))=true from decide_eq_true hw3] at b3
         have HNf:=fun t ok hu=>rdE_file (f:=f) (t:=t) (ok:=ok) hw3 hu;have hrs2:=rest_small (restOf f);clear b4 b5 hw1 hw2 hw3;generalize ofL (wordOf f)=wd at*
         go_wp2_with fail
         refine (c75h (restOf f) _ om_ hm1).mono ?_;rintro e w2 ⟨rfl,hb2⟩
         go_wp2_with fail
         refine (c82' (restOf (restOf f)) _ om_).mono ?_;rintro e w3 ⟨⟨t,ok,rfl,hu⟩,hb3⟩;have HN:Hid (RdE [f] (eFile (ofL (wordOf (restOf f))) (ofL t)) ok):=HNf t ok hu;have hts:ok=true->t.length<=16000:=fun h=>by
          have:=quote_ge t;rw [<- hu.1 h] at this;omega
         have hB3:Below w.heap.size w w3:=hb1.trans ((bT_ hb2 hb3).mono hb1.size);clear hu HNf;cases ok
         · go_wp2
           go_ret2;exact ⟨.inl ⟨_,rfl,fun z=>⟨fun y hy e=>absurd (HN.out.1 y hy e).1 dc_,(fun h=>by cases h)⟩⟩,hB3⟩
         · have hts':=hts rfl
           go_wp2;go_ret2;exact ⟨.inr ⟨eFile (ofL (wordOf (restOf f))) (ofL t),none,0,rfl,HN.out,.inr (.inl ⟨_,_,rfl⟩),z10_le _ (by show (ofL (wordOf (restOf f))).size<=1048576;rw [ofL_size];omega) (by show (ofL t).size<=1048576;rw [ofL_size];omega) rfl rfl rfl,⟨.inl rfl,.inl rfl⟩⟩,hB3⟩
       · rw [show (decide (wordOf f=[102,105,108,101]))=false from decide_eq_false hw3] at b3
         by_cases hw4:wordOf f=wDrop
         · rw [show (decide (wordOf f=[100,114,111,112]))=true from decide_eq_true hw4] at b4
           have HN:Hid (RdE [f] (eDrop (ofL (restOf f))) true):=rdE_drop hw4;clear b5 hw1 hw2 hw3 hw4;generalize ofL (wordOf f)=wd at*;go_wp2;go_ret2;exact ⟨.inr ⟨eDrop (ofL (restOf f)),none,0,rfl,HN.out,.inr (.inr (.inl ⟨_,rfl⟩)),z10_le _ (by show (ofL (restOf f)).size<=1048576;rw [ofL_size];omega) (Nat.zero_le _) rfl rfl rfl,⟨.inl rfl,.inl rfl⟩⟩,hb1⟩
         · rw [show (decide (wordOf f=[100,114,111,112]))=false from decide_eq_false hw4] at b4
           by_cases hw5:wordOf f=wClear
           · rw [show (decide (wordOf f=[99,108,101,97,114]))=true from decide_eq_true hw5] at b5
             have HN:Hid (RdE [f] eClear (decide ((32:UInt8)∉f))):=rdE_clear hw5;clear hw1 hw2 hw3 hw4 hw5;generalize ofL (wordOf f)=wd at*;by_cases h32:(32:UInt8)∈f
             · rw [show decide ((32:UInt8)∉f)=false from decide_eq_false (fun h=>h h32)] at HN
               rw [decide_eq_true h32];go_wp2;go_ret2;exact ⟨.inl ⟨_,rfl,fun z=>⟨fun y hy e=>absurd (HN.out.1 y hy e).1 dc_,(fun h=>by cases h)⟩⟩,hb1⟩
             · rw [show decide ((32:UInt8)∉f)=true from decide_eq_true h32] at HN
               rw [decide_eq_false h32];go_wp2;go_ret2;exact ⟨.inr ⟨eClear,none,0,rfl,HN.out,.inr (.inr (.inr (.inr rfl))),z10_le _ (Nat.zero_le _) (Nat.zero_le _) rfl rfl rfl,⟨.inl rfl,.inl rfl⟩⟩,hb1⟩
           · rw [show (decide (wordOf f=[99,108,101,97,114]))=false from decide_eq_false hw5] at b5
             have HN:Hid (∀ z,RdE [f] z false):=fun z=>rdE_word hw1 hw2 hw3 hw4 hw5 z;clear hw1 hw2 hw3 hw4 hw5;generalize ofL (wordOf f)=wd at*;go_wp2;go_ret2;exact ⟨is35_no HN.out _ _,hb1⟩
   · have HN:Hid (∀ z,RdE (f::b) z false):=fun z=>rdE_many hw1 hbe z
     have hbl:1<=b.length:=List.length_pos_iff.2 hbe;have hb1':decide (1<(b.length:Int)+1)=true:=so_;clear hw1 b2 b3 b4 b5;generalize ofL (wordOf f)=wd at*;go_wp2;go_ret2;exact ⟨is35_no HN.out _ _,hb1⟩
theorem met1 (v:Value) (w:World):(Go.method 387 103 v "loop.example/kiln/impl.isSound").run prog w=.ok (238,v) w:=kr_
theorem met2 (v:Value) (w:World):(Go.method 387 104 v "loop.example/kiln/impl.isSound").run prog w=.ok (241,v) w:=kr_
theorem met3 (v:Value) (w:World):(Go.method 387 105 v "loop.example/kiln/impl.isSound").run prog w=.ok (243,v) w:=kr_
theorem met4 (v:Value) (w:World):(Go.method 387 107 v "loop.example/kiln/impl.isSound").run prog w=.ok (245,v) w:=kr_
theorem met5 (v:Value) (w:World):(Go.method 387 110 v "loop.example/kiln/impl.isSound").run prog w=.ok (247,v) w:=kr_
theorem ok_epoch (n:Int):EntOk (eEpoch n)↔(1<=n/\n<=200):=by
 constructor
 · intro h
   obtain ⟨m,hm,e⟩:=is_epoch h rfl;have:n=m:=congrArg N10.ep e;rw [this];exact hm
 · intro h;exact .inl ⟨n,h,rfl⟩
theorem ok_file (a b:ByteArray):EntOk (eFile a b)↔(nameOk a.data.toList=true/\b.size<=300):=by
 constructor
 · intro h
   obtain ⟨a',b',hm,e⟩:=is_file h rfl;have e1:a=a':=congrArg N10.fn e;have e2:b=b':=congrArg N10.ft e;rw [e1,e2];exact hm
 · intro h;exact .inr (.inl ⟨a,b,h,rfl⟩)
theorem ok_drop (a:ByteArray):EntOk (eDrop a)↔nameOk a.data.toList=true:=by
 constructor
 · intro h
   obtain ⟨a',hm,e⟩:=is_drop h rfl;have e1:a=a':=congrArg N10.fn e;rw [e1];exact hm
 · intro h;exact .inr (.inr (.inl ⟨a,h,rfl⟩))
theorem ok_ran (m:M3) (ls:List L4) (c:Int) (t:ByteArray):EntOk (eRan m ls c t)↔RanOk m ls c t:=by
 constructor
 · intro h
   obtain ⟨m',ls',c',t',hm,e⟩:=is_ran h rfl;have e1:m=m':=congrArg N10.km e;have e2:ls=ls':=congrArg N10.ls e;have e3:c=c':=congrArg N10.cd e;have e4:t=t':=congrArg N10.tx e;rw [e1,e2,e3,e4];exact hm
 · intro h;exact .inr (.inr (.inr (.inl ⟨m,ls,c,t,h,rfl⟩)))
def Is16 (l:List UInt8) (w w':World) (e:Ending):Prop:=(e=.returned (.tuple #[.nilIface,.bool false])/\∀ z,RE l z false)\/(∃ (x:N10) (ai:Option Addr) (ci:Nat),e=.returned (.tuple #[ifE x ai ci,.bool true])/\RE l x true/\ShE x/\x.le 1048576/\LkOwn w' w.heap.size ai x.ls)
theorem c18 (s:ByteArray) (w:World) (hs:s.size<=1048576) (hmx:MaxAt w):
 Calls prog 18 #[.string s] w fun e w'=>Is16 s.data.toList w w' e/\Below w.heap.size w w':=by
 have hsl:s.data.toList.length=s.size:=sm_;by_cases h16:s.size<=16000
 · have hd:decide (16000<(s.size:Int))=false:=so_
   go_enter func18,ntmps18
   go_wp2_with fail
   refine (c42 s _ om_ hmx).mono ?_;rintro e w1 ⟨hr,hb1⟩;rcases hr with ⟨hen,rfl⟩ | ⟨hen,g,rfl,hg0,hln⟩
   · have HN:Hid (∀ z,RE s.data.toList z false):=fun z=>re_end hen z
     clear hen;go_wp2;go_ret2;exact ⟨.inl ⟨rfl,HN.out⟩,hb1⟩
   · have hcl:=cut_len 10 s.data.toList.dropLast
     have hdl:s.data.toList.dropLast.length<=16000:=by rw [List.length_dropLast];omega
     have hcs:=cut_smallE 10 s.data.toList.dropLast;have hRe:=fun x ok hr=>re_read (l:=s.data.toList) (x:=x) (ok:=ok) hen hr;generalize cutS 10 s.data.toList.dropLast=L at*;obtain ⟨f,b,rfl⟩:∃ f b,L=f::b:=by
      cases L with
      | nil=>simp at hcl
      | cons f b=>exact ⟨f,b,rfl⟩
     have hfs:f.length<=16000:=Nat.le_trans (hcs 0) hdl;have hbs:∀ i,i<b.length->(b.getD i []).length<=16000:=fun i _=>Nat.le_trans (hcs (i+1)) hdl;have hbl:b.length<=16001:=by simp at hcl;omega
     have hli:LinesIn w1 g 0 (f::b):=⟨hln.1,fun i hi=>by rw [Nat.zero_add];exact hln.2 i hi⟩;have hm1:MaxAt w1:=max_below hmx hb1;clear hen hcs hcl hdl hln;simp only [List.length_cons]
     go_wp2_with fail
     refine (c43 f b g _ hfs hm1 hbl hli hbs).mono ?_;rintro e w2 ⟨hr,hb2⟩;have hB2:Below w.heap.size w w2:=bT_ hb1 hb2;rcases hr with ⟨v,rfl,hn⟩ | ⟨x,ai,ci,rfl,h1,h2,h3,h4⟩
     · have HN:Hid (∀ z,RE s.data.toList z false):=(hRe n10z false (hn _)).2 (fun h=>by cases h.1)
       clear hn hRe;go_wp2;go_ret2;exact ⟨.inl ⟨rfl,HN.out⟩,hB2⟩
     · have hR:=hRe x true h1
       have h4':LkOwn w2 w.heap.size ai x.ls:=h4.mono hb1.size;clear hRe h1 h4;rcases h2 with ⟨n,rfl⟩ | ⟨a,c,rfl⟩ | ⟨a,rfl⟩ | ⟨m,ls,c,t,rfl⟩ | rfl
       · have hMet:=met1
         have he:ifE (eEpoch n) ai ci=.iface 103 (.int .i64 n):=rfl;rw [he]
         go_wp2_with fail
         refine (c238 n _).mono ?_;rintro e w3 ⟨⟨r,rfl,hrr⟩,hb3⟩;have hB3:Below w.heap.size w w3:=bT_ hB2 hb3;have hk3:=LkOwn.bel h4' hb3;clear hMet he;cases r
         · have HN:Hid (∀ z,RE s.data.toList z false):=hR.2 (fun h=>absurd (hrr.2 ((ok_epoch n).1 h.2)) dc_)
           clear hR hrr;go_wp2;go_ret2;exact ⟨.inl ⟨rfl,HN.out⟩,hB3⟩
         · have HN:Hid (RE s.data.toList (eEpoch n) true):=hR.1 (by first | rfl | trivial) ((ok_epoch n).2 (hrr.1 rfl))
           clear hR hrr;go_wp2;go_ret2;exact ⟨.inr ⟨eEpoch n,ai,ci,rfl,HN.out,.inl ⟨_,rfl⟩,h3,hk3⟩,hB3⟩
       · have hMet:=met2
         have he:ifE (eFile a c) ai ci=.iface 104 (.agg #[.string a,.string c]):=rfl;rw [he]
         go_wp2_with fail
         refine (c241 a c _ (Nat.le_trans h3.1 om_) (Nat.le_trans h3.2.1 om_)).mono ?_;rintro e w3 ⟨⟨r,rfl,hrr⟩,hb3⟩;have hB3:Below w.heap.size w w3:=bT_ hB2 hb3;have hk3:=LkOwn.bel h4' hb3;clear hMet he;cases r
         · have HN:Hid (∀ z,RE s.data.toList z false):=hR.2 (fun h=>absurd (hrr.2 ((ok_file a c).1 h.2)) dc_)
           clear hR hrr;go_wp2;go_ret2;exact ⟨.inl ⟨rfl,HN.out⟩,hB3⟩
         · have HN:Hid (RE s.data.toList (eFile a c) true):=hR.1 (by first | rfl | trivial) ((ok_file a c).2 (hrr.1 rfl))
           clear hR hrr;go_wp2;go_ret2;exact ⟨.inr ⟨eFile a c,ai,ci,rfl,HN.out,.inr (.inl ⟨_,_,rfl⟩),h3,hk3⟩,hB3⟩
       · have hMet:=met3
         have he:ifE (eDrop a) ai ci=.iface 105 (.string a):=rfl;rw [he]
         go_wp2_with fail
         refine (c243 a _ (Nat.le_trans h3.1 om_)).mono ?_;rintro e w3 ⟨⟨r,rfl,hrr⟩,hb3⟩;have hB3:Below w.heap.size w w3:=bT_ hB2 hb3;have hk3:=LkOwn.bel h4' hb3;clear hMet he;cases r
         · have HN:Hid (∀ z,RE s.data.toList z false):=hR.2 (fun h=>absurd (hrr.2 ((ok_drop a).1 h.2)) dc_)
           clear hR hrr;go_wp2;go_ret2;exact ⟨.inl ⟨rfl,HN.out⟩,hB3⟩
         · have HN:Hid (RE s.data.toList (eDrop a) true):=hR.1 (by first | rfl | trivial) ((ok_drop a).2 (hrr.1 rfl))
           clear hR hrr;go_wp2;go_ret2;exact ⟨.inr ⟨eDrop a,ai,ci,rfl,HN.out,.inr (.inr (.inl ⟨_,rfl⟩)),h3,hk3⟩,hB3⟩
       · have hMet:=met4
         have he:ifE (eRan m ls c t) ai ci=.iface 107 (.agg #[.string m.nm,.string m.tl,.string m.ar,.slice ai ls.length ci,.int .i64 c,.string t]):=rfl;rw [he]
         go_wp2_with fail
         refine (c245 m ls c t ai ci _ h3.2.2.1 h3.2.2.2.1.1 h3.2.2.2.1.2 h3.2.2.2.2 h4'.at').mono ?_;rintro e w3 ⟨⟨r,rfl,hrr⟩,hb3⟩;have hB3:Below w.heap.size w w3:=bT_ hB2 hb3;have hk3:=LkOwn.bel h4' hb3;clear hMet he;cases r
         · have HN:Hid (∀ z,RE s.data.toList z false):=hR.2 (fun h=>absurd (hrr.2 ((ok_ran m ls c t).1 h.2)) dc_)
           clear hR hrr;go_wp2;go_ret2;exact ⟨.inl ⟨rfl,HN.out⟩,hB3⟩
         · have HN:Hid (RE s.data.toList (eRan m ls c t) true):=hR.1 (by first | rfl | trivial) ((ok_ran m ls c t).2 (hrr.1 rfl))
           clear hR hrr;go_wp2;go_ret2;exact ⟨.inr ⟨eRan m ls c t,ai,ci,rfl,HN.out,.inr (.inr (.inr (.inl ⟨_,_,_,_,rfl⟩))),h3,hk3⟩,hB3⟩
       · have hMet:=met5
         have he:ifE (eClear) ai ci=.iface 110 (.agg #[]):=rfl;rw [he]
         go_wp2_with fail
         refine (c247 _).mono ?_;rintro e w3 ⟨⟨r,rfl,hrr⟩,hb3⟩;have hB3:Below w.heap.size w w3:=bT_ hB2 hb3;have hk3:=LkOwn.bel h4' hb3;clear hMet he;cases r
         · have HN:Hid (∀ z,RE s.data.toList z false):=hR.2 (fun h=>absurd (hrr.2 trivial) dc_)
           clear hR hrr;go_wp2;go_ret2;exact ⟨.inl ⟨rfl,HN.out⟩,hB3⟩
         · have HN:Hid (RE s.data.toList (eClear) true):=hR.1 (by first | rfl | trivial) (.inr (.inr (.inr (.inr rfl))))
           clear hR hrr;go_wp2;go_ret2;exact ⟨.inr ⟨eClear,ai,ci,rfl,HN.out,.inr (.inr (.inr (.inr rfl))),h3,hk3⟩,hB3⟩
 · have HN:Hid (∀ z,RE s.data.toList z false):=fun z=>re_long om_ z
   have hd:decide (16000<(s.size:Int))=true:=so_;go_enter func18,ntmps18;go_wp2;go_ret2;exact ⟨.inl ⟨rfl,HN.out⟩,Below.refl _ _⟩
end Go.Proofs.YtlckdgjfniglfaaGreatDoor
