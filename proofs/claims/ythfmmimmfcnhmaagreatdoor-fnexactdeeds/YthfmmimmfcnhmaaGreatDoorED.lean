import Derived.Test.YthfmmimmfcnhmaaGreatDoorDF
import Derived.Test.YthfmmimmfcnhmaaGreatDoorLA
set_option linter.unusedVariables false
set_option maxHeartbeats 8000000
set_option maxRecDepth 100000
namespace Go.Proofs.YthfmmimmfcnhmaaGreatDoor
open Proofs.Tryz
open Go.RowKit
theorem c49 (m1 m2 m3:ByteArray) (w:World):
 Calls prog 49 #[.agg #[.string m1,.string m2,.string m3],.agg #[.string m1,.string m2,.string m3]] w fun e w'=>e=.returned (.bool true)/\Below w.heap.size w w':=by
 go_enter func49,ntmps49
 go_wp2
 go_ret
 exact ⟨rfl,((Below.refl _ _).alloc (Nat.le_refl _) _).alloc (by simp) _⟩
theorem c24 (n:ByteArray) (md:Bool) (m1 m2 m3:ByteArray) (ls:List M.L4) (rc:Int) (rt:ByteArray) (la la':Option Addr) (lc lc':Nat) (w:World) (hl:ls.length<=15) (hat:M.LksAt w la ls) (hat':M.LksAt w la' ls):
 Calls prog 24 #[.agg #[.string n,.bool md,.string m1,.string m2,.string m3,.slice la ls.length lc,.int .i64 rc,.string rt],.agg #[.string n,.bool md,.string m1,.string m2,.string m3,.slice la' ls.length lc',.int .i64 rc,.string rt]] w fun e w'=>e=.returned (.bool true)/\Below w.heap.size w w':=by
 obtain ⟨u,hu⟩:∃ u:World,u=(w.alloc (.cells #[.string n,.bool md,.string m1,.string m2,.string m3,.slice la ls.length lc,.int .i64 rc,.string rt] 55)).alloc (.cells #[.string n,.bool md,.string m1,.string m2,.string m3,.slice la' ls.length lc',.int .i64 rc,.string rt] 55):=⟨_,rfl⟩
 have HU:=hidI hu
 have hbu:Below w.heap.size w u:=by rw [hu];exact ((Below.refl _ _).alloc (Nat.le_refl _) _).alloc (by simp) _
 have HBU:=hidI hbu
 have hzu:u.heap.size=w.heap.size+1+1:=by rw [hu];simp
 have hz1:w.heap.size<u.heap.size:=by omega
 have hz2:w.heap.size+1<u.heap.size:=by omega
 have C2:Cl u w.heap.size 55 [.string n,.bool md,.string m1,.string m2,.string m3,.slice la ls.length lc,.int .i64 rc,.string rt]:=by rw [hu];exact cl_old (cl_new w _ 55) _
 have C3:Cl u (w.heap.size+1) 55 [.string n,.bool md,.string m1,.string m2,.string m3,.slice la' ls.length lc',.int .i64 rc,.string rt]:=by
  rw [hu]
  have:=cl_new (w.alloc (.cells #[.string n,.bool md,.string m1,.string m2,.string m3,.slice la ls.length lc,.int .i64 rc,.string rt] 55)) [.string n,.bool md,.string m1,.string m2,.string m3,.slice la' ls.length lc',.int .i64 rc,.string rt] 55
  rw [World.size_alloc] at this
  exact this
 have HL:=hidI (M.lks_below hat hbu)
 have HL':=hidI (M.lks_below hat' hbu)
 have g0:u.cell? ⟨w.heap.size,0,none⟩=some (.string n):=C2.cell 0
 have g1:u.cell? ⟨w.heap.size,1,none⟩=some (.bool md):=C2.cell 1
 have g2:u.cell? ⟨w.heap.size,2,none⟩=some (.string m1):=C2.cell 2
 have g3:u.cell? ⟨w.heap.size,3,none⟩=some (.string m2):=C2.cell 3
 have g4:u.cell? ⟨w.heap.size,4,none⟩=some (.string m3):=C2.cell 4
 have g5:u.cell? ⟨w.heap.size,5,none⟩=some (.slice la ls.length lc):=C2.cell 5
 have g6:u.cell? ⟨w.heap.size,6,none⟩=some (.int .i64 rc):=C2.cell 6
 have g7:u.cell? ⟨w.heap.size,7,none⟩=some (.string rt):=C2.cell 7
 have k0:u.cell? ⟨w.heap.size+1,0,none⟩=some (.string n):=C3.cell 0
 have k1:u.cell? ⟨w.heap.size+1,1,none⟩=some (.bool md):=C3.cell 1
 have k2:u.cell? ⟨w.heap.size+1,2,none⟩=some (.string m1):=C3.cell 2
 have k3:u.cell? ⟨w.heap.size+1,3,none⟩=some (.string m2):=C3.cell 3
 have k4:u.cell? ⟨w.heap.size+1,4,none⟩=some (.string m3):=C3.cell 4
 have k5:u.cell? ⟨w.heap.size+1,5,none⟩=some (.slice la' ls.length lc'):=C3.cell 5
 have k6:u.cell? ⟨w.heap.size+1,6,none⟩=some (.int .i64 rc):=C3.cell 6
 have k7:u.cell? ⟨w.heap.size+1,7,none⟩=some (.string rt):=C3.cell 7
 have HC2:=hidI C2
 have HC3:=hidI C3
 clear hu hbu hzu C2 C3 hat hat'
 go_enter func24,ntmps24
 go_upto_region 1 with fail
 rw [<- HU.out]
 clear HU
 go_wp2_with fail
 refine (c49 m1 m2 m3 u).mono ?_
 rintro e w1 ⟨rfl,hb1⟩
 have HB1:=hidI hb1
 have p5:w1.cell? ⟨w.heap.size,5,none⟩=some (.slice la ls.length lc):=(hb1.cell (p:=⟨w.heap.size,5,none⟩) hz1).trans (HC2.out.cell 5)
 have q5:w1.cell? ⟨w.heap.size+1,5,none⟩=some (.slice la' ls.length lc'):=(hb1.cell (p:=⟨w.heap.size+1,5,none⟩) hz2).trans (HC3.out.cell 5)
 clear hb1 g0 k0 g1 k1 g2 k2 g3 k3 g4 k4 g5 k5 g6 k6 g7 k7
 go_wp2_with fail
 refine (M.c50 la la' lc lc' ls w1 (by omega) (M.lks_below HL.out HB1.out) (M.lks_below HL'.out HB1.out)).mono ?_
 rintro e w2 ⟨rfl,hb2⟩
 have hB2:=HB1.out.trans (hb2.mono HB1.out.size)
 clear p5 q5 hb2
 have p6:w2.cell? ⟨w.heap.size,6,none⟩=some (.int .i64 rc):=(hB2.cell (p:=⟨w.heap.size,6,none⟩) hz1).trans (HC2.out.cell 6)
 have q6:w2.cell? ⟨w.heap.size+1,6,none⟩=some (.int .i64 rc):=(hB2.cell (p:=⟨w.heap.size+1,6,none⟩) hz2).trans (HC3.out.cell 6)
 have p7:w2.cell? ⟨w.heap.size,7,none⟩=some (.string rt):=(hB2.cell (p:=⟨w.heap.size,7,none⟩) hz1).trans (HC2.out.cell 7)
 have q7:w2.cell? ⟨w.heap.size+1,7,none⟩=some (.string rt):=(hB2.cell (p:=⟨w.heap.size+1,7,none⟩) hz2).trans (HC3.out.cell 7)
 have HB2:=hidI hB2
 clear hB2
 go_wp2_with fail
 refine (M.c51 rc rt w2).mono ?_
 rintro e w3 ⟨rfl,hb3⟩
 go_wp2
 go_ret
 exact ⟨rfl,HBU.out.trans ((HB2.out.trans (hb3.mono HB2.out.size)).mono HBU.out.size)⟩
theorem c8 (a a':Option Addr) (cap cap':Nat) (xs ys:List De) (w:World) (hl:xs.length<=481) (hm:xs.map (·.d)=ys.map (·.d)) (h15:∀ x∈xs,x.d.ls.length<=15) (hat:DesAt w a xs) (hat':DesAt w a' ys) (hk:∀ x∈xs,∃ la lc,x.lv=.slice la x.d.ls.length lc/\M.LksAt w la x.d.ls) (hk':∀ x∈ys,∃ la lc,x.lv=.slice la x.d.ls.length lc/\M.LksAt w la x.d.ls):
 Calls prog 8 #[.slice a xs.length cap,.slice a' ys.length cap'] w fun e w'=>e=.returned (.bool true)/\Below w.heap.size w w':=by
 have hyl:ys.length=xs.length:=by have:=congrArg List.length hm;simp at this;exact this.symm
 have HAT:=hidI hat
 have HAT':=hidI hat'
 have HK:=hidI hk
 have HK':=hidI hk'
 have H15:=hidI h15
 have HM:=hidI hm
 have hyl':=hidI hyl
 rw [hyl]
 clear hat hat' hk hk' h15 hm hyl
 go_enter func8,ntmps8
 go_wp2_with fail
 go_loopw [5] (fun i wr=>∃ (k:Nat),k<=xs.length/\i=.int .i64 k/\Below w.heap.size w wr) (fun i _=>xs.length - (intOf i).toNat)
 case atStart=>exact ⟨0,Nat.zero_le _,rfl,Below.refl _ _⟩
 obtain ⟨k,hk,rfl,hb⟩:=hrel
 by_cases hlt:k<xs.length
 rotate_left
 · go_wp2
   go_ret
   exact ⟨rfl,hb⟩
 rcases HAT.out with hss | ⟨b,rfl,hbw,hcell⟩
 · rw [hss] at hlt;exact absurd hlt (Nat.not_lt_zero _)
 have hlt':k<ys.length:=by rw [hyl'.out];exact hlt
 rcases HAT'.out with hss | ⟨b',rfl,hbw',hcell'⟩
 · rw [hss] at hlt';exact absurd hlt' (Nat.not_lt_zero _)
 have hc1:=hcell k hlt
 have hc2:=hcell' k hlt'
 have hx1:xs.getD k dez∈xs:=by rw [List.getD,List.getElem?_eq_getElem hlt];exact List.getElem_mem hlt
 have hy1:ys.getD k dez∈ys:=by rw [List.getD,List.getElem?_eq_getElem hlt'];exact List.getElem_mem hlt'
 have hdd:(xs.getD k dez).d=(ys.getD k dez).d:=by
  have:=congrArg (fun l=>l.getD k dez.d) HM.out
  simpa [List.getD,List.getElem?_eq_getElem hlt,List.getElem?_eq_getElem hlt'] using this
 obtain ⟨la,lc,e1,l1⟩:=HK.out _ hx1
 obtain ⟨la',lc',e2,l2⟩:=HK'.out _ hy1
 have hls:=H15.out _ hx1
 clear hcell hcell' hx1 hy1
 generalize xs.getD k dez=x at*
 generalize ys.getD k dez=y at*
 obtain ⟨dx,lvx⟩:=x
 obtain ⟨dy,lvy⟩:=y
 dsimp only at hdd e1 e2 l1 l2 hls
 subst hdd
 subst e1
 subst e2
 obtain ⟨n,md,⟨m1,m2,m3⟩,ls,⟨rc,rt⟩,wt⟩:=dx
 dsimp only at l1 l2 hls
 have g0:wr.cell? ⟨b,k*8,none⟩=some (.string n):=(hb.cell (p:=⟨b,k*8+0,none⟩) hbw).trans (hc1 0 _ rfl)
 have g1:wr.cell? ⟨b,k*8+1,none⟩=some (.bool md):=(hb.cell (p:=⟨b,k*8+1,none⟩) hbw).trans (hc1 1 _ rfl)
 have g2:wr.cell? ⟨b,k*8+2,none⟩=some (.string m1):=(hb.cell (p:=⟨b,k*8+2,none⟩) hbw).trans (hc1 2 _ rfl)
 have g3:wr.cell? ⟨b,k*8+3,none⟩=some (.string m2):=(hb.cell (p:=⟨b,k*8+3,none⟩) hbw).trans (hc1 3 _ rfl)
 have g4:wr.cell? ⟨b,k*8+4,none⟩=some (.string m3):=(hb.cell (p:=⟨b,k*8+4,none⟩) hbw).trans (hc1 4 _ rfl)
 have g5:wr.cell? ⟨b,k*8+5,none⟩=some (.slice la ls.length lc):=(hb.cell (p:=⟨b,k*8+5,none⟩) hbw).trans (hc1 5 _ rfl)
 have g6:wr.cell? ⟨b,k*8+6,none⟩=some (.int .i64 rc):=(hb.cell (p:=⟨b,k*8+6,none⟩) hbw).trans (hc1 6 _ rfl)
 have g7:wr.cell? ⟨b,k*8+7,none⟩=some (.string rt):=(hb.cell (p:=⟨b,k*8+7,none⟩) hbw).trans (hc1 7 _ rfl)
 have k0:wr.cell? ⟨b',k*8,none⟩=some (.string n):=(hb.cell (p:=⟨b',k*8+0,none⟩) hbw').trans (hc2 0 _ rfl)
 have k1:wr.cell? ⟨b',k*8+1,none⟩=some (.bool md):=(hb.cell (p:=⟨b',k*8+1,none⟩) hbw').trans (hc2 1 _ rfl)
 have k2:wr.cell? ⟨b',k*8+2,none⟩=some (.string m1):=(hb.cell (p:=⟨b',k*8+2,none⟩) hbw').trans (hc2 2 _ rfl)
 have k3:wr.cell? ⟨b',k*8+3,none⟩=some (.string m2):=(hb.cell (p:=⟨b',k*8+3,none⟩) hbw').trans (hc2 3 _ rfl)
 have k4:wr.cell? ⟨b',k*8+4,none⟩=some (.string m3):=(hb.cell (p:=⟨b',k*8+4,none⟩) hbw').trans (hc2 4 _ rfl)
 have k5:wr.cell? ⟨b',k*8+5,none⟩=some (.slice la' ls.length lc'):=(hb.cell (p:=⟨b',k*8+5,none⟩) hbw').trans (hc2 5 _ rfl)
 have k6:wr.cell? ⟨b',k*8+6,none⟩=some (.int .i64 rc):=(hb.cell (p:=⟨b',k*8+6,none⟩) hbw').trans (hc2 6 _ rfl)
 have k7:wr.cell? ⟨b',k*8+7,none⟩=some (.string rt):=(hb.cell (p:=⟨b',k*8+7,none⟩) hbw').trans (hc2 7 _ rfl)
 have h24:=fun (u:World) (hu:Below w.heap.size w u)=>c24 n md m1 m2 m3 ls rc rt la la' lc lc' u hls (M.lks_below l1 hu) (M.lks_below l2 hu)
 clear hc1 hc2 l1 l2
 go_wp2_with fail
 go_region_with (go_at_call 24;refine (h24 _ hb.drew).mono ?_;rintro e w1 ⟨rfl,hb1⟩)
 all_goals go_wp2
 all_goals go_roundw
 all_goals first
  | exact ⟨k+1,by omega,by go_num,(hb.drew).trans (hb1.mono hb.size)⟩
  | (simp [intOf];omega)
open M (Opn Open4 MarksAt mtx)
structure Bl where
 lv:Value
 b:Nat
 n:Nat
def blz:Bl:=⟨.slice none 0 0,0,0⟩
def kD (K:Int) (es:List Bl) (i:Nat):Int:=K+((es.take i).map fun e=>7+4*(e.n:Int)).sum
theorem kD_succ {K:Int} {es:List Bl} {i:Nat} (h:i<es.length):kD K es (i+1)=kD K es i+7+4*((es.getD i blz).n:Int):=by
 unfold kD
 rw [List.take_succ_eq_append_getElem h]
 simp only [List.map_append,List.map_cons,List.map_nil,List.sum_append,List.sum_cons,List.sum_nil,List.getD,List.getElem?_eq_getElem h,Option.getD_some]
 omega
theorem kD_le (K:Int) {es:List Bl} (hn:∀ e∈es,e.n<=15):∀ i,i<=es.length->K<=kD K es i/\kD K es i<=K+67*(i:Int)
 | 0,_=>by simp [kD]
 | i+1,h=>by
  have ih:=kD_le K hn i (by omega)
  have h1:es.getD i blz∈es:=by rw [List.getD,List.getElem?_eq_getElem (by omega)];exact List.getElem_mem _
  have h2:=hn _ h1
  rw [kD_succ (by omega)]
  omega
def mkV (K:Int) (e:Bl):List Value:=[.string (mtx K),.bool ((K+1) % 3==0),.string (mtx (K+1+1)),.string (mtx (K+1+1+1)),.string (mtx (K+1+1+1+1)),e.lv,.int .i64 (K+1+1+1+1+1+4*(e.n:Int)),.string (mtx (K+1+1+1+1+1+4*(e.n:Int)+1))]
structure StB (base g:Nat) (es:List Bl):Prop where
 ge:es≠[]->base<=g
 sl:∀ i,i<es.length->∃ a c,(es.getD i blz).lv=.slice a (es.getD i blz).n c/\((es.getD i blz).n=0\/a=some ⟨(es.getD i blz).b,0,none⟩)
 bg:∀ i,i<es.length->(es.getD i blz).n≠0->(es.getD i blz).b≠g/\base<=(es.getD i blz).b
 ne:∀ i j,i<es.length->j<es.length->i≠j->(es.getD i blz).n≠0->(es.getD j blz).n≠0->(es.getD i blz).b≠(es.getD j blz).b
 n15:∀ e∈es,e.n<=15
structure Mkd1 (K:Int) (g i:Nat) (e:Bl) (w:World):Prop where
 c:∀ j v,(mkV K e)[j]?=some v->w.cell? ⟨g,i*8+j,none⟩=some v
 lt:e.n=0\/e.b<w.heap.size
 m:MarksAt (K+1+1+1+1+1) w e.b e.n
structure StD (base g:Nat) (es:List Bl) (K:Int) (k u:Nat) (w0 w:World):Prop where
 opn:es≠[]->Opn w g (es.length*8)
 lv:∀ i,i<es.length->w.cell? ⟨g,i*8+5,none⟩=some (es.getD i blz).lv
 un:∀ i,u<=i->i<es.length->(es.getD i blz).n=0\/Open4 w (es.getD i blz).b (es.getD i blz).n
 md:∀ i,i<k->Mkd1 (kD K es i) g i (es.getD i blz) w
 bl:Below base w0 w
def Pt (w:World) (g k:Nat) (vs:List Value):Prop:=∀ j v,vs[j]?=some v->w.cell? ⟨g,k*8+j,none⟩=some v
theorem ne_of {es:List Bl} {i:Nat} (h:i<es.length):es≠[]:=fun e=>by rw [e] at h;cases h
theorem marks_same {K:Int} {w w':World} {b n:Nat} (h:MarksAt K w b n) (hc:n=0\/∀ j,w'.cell? ⟨b,j,none⟩=w.cell? ⟨b,j,none⟩):MarksAt K w' b n:=by
 rcases hc with rfl | hc
 · exact fun j hj=>absurd hj (Nat.not_lt_zero _)
 intro j hj
 rw [hc,hc,hc,hc]
 exact h j hj
theorem Mkd1.same {K:Int} {g i:Nat} {e:Bl} {w w':World} (h:Mkd1 K g i e w) (hz:w.heap.size<=w'.heap.size) (h1:∀ j,j<8->w'.cell? ⟨g,i*8+j,none⟩=w.cell? ⟨g,i*8+j,none⟩) (h2:e.n=0\/∀ j,w'.cell? ⟨e.b,j,none⟩=w.cell? ⟨e.b,j,none⟩):Mkd1 K g i e w':=
 ⟨fun j v hv=>by
   have:j<8:=(List.getElem?_eq_some_iff.1 hv).1
   rw [h1 j this];exact h.c j v hv,h.lt.imp id (fun h=>Nat.lt_of_lt_of_le h hz),marks_same h.m h2⟩
theorem Mkd1.below {K:Int} {g i:Nat} {e:Bl} {w w':World} (h:Mkd1 K g i e w) (hg:g<w.heap.size) (hb:Below w.heap.size w w'):Mkd1 K g i e w':=
 h.same hb.size (fun j _=>hb.cell (p:=⟨g,i*8+j,none⟩) hg) (h.lt.imp id fun h j=>hb.cell (p:=⟨_,j,none⟩) h)
theorem StD.below {base g:Nat} {es:List Bl} {K:Int} {k u:Nat} {w0 w w':World} (h:StD base g es K k u w0 w) (hk:k<=es.length) (hz:base<=w.heap.size) (hb:Below w.heap.size w w'):StD base g es K k u w0 w':=
 ⟨fun hn=>(h.opn hn).below hb,fun i hi=>(hb.cell (p:=⟨g,i*8+5,none⟩) (h.opn (ne_of hi)).1).trans (h.lv i hi),fun i h1 h2=>(h.un i h1 h2).imp id (fun h=>h.below hb),fun i hi=>(h.md i hi).below (h.opn (ne_of (Nat.lt_of_lt_of_le hi hk))).1 hb,h.bl.trans (hb.mono hz)⟩
theorem open_other {w:World} {b n g j:Nat} {v:Value} (h:Open4 w b n) (hne:b≠g):Open4 (w.setCell ⟨g,j,none⟩ v) b n:=
 ⟨by simpa using h.1,fun i hi=>by rw [World.cell?_setCell_other _ _ _ _ (fun e=>hne (by injection e with e;exact e.symm))];exact h.2.1 i hi,fun i=>by have:=h.2.2 i;simpa using this⟩
theorem StD.set {base g:Nat} {es:List Bl} {K:Int} {k u:Nat} {w0 w:World} (h:StD base g es K k u w0 w) (hs:StB base g es) (hk:k<es.length) {j:Nat} (hj:j<8) (h5:j≠5) (v:Value):StD base g es K k u w0 (w.setCell ⟨g,k*8+j,none⟩ v):=by
 have ot:∀ b j',b≠g->(w.setCell ⟨g,k*8+j,none⟩ v).cell? ⟨b,j',none⟩=w.cell? ⟨b,j',none⟩:=fun b j' hne=>World.cell?_setCell_other _ _ _ _ (fun e=>hne (by injection e with e;exact e.symm))
 refine ⟨fun hn=>(h.opn hn).set,fun i hi=>?_,fun i h1 h2=>?_,fun i hi=>?_,h.bl.trans ((on_set w g _ v).below (hs.ge (ne_of hk)))⟩
 · rw [World.cell?_setCell_other _ _ _ _ (adr_ne (by omega))];exact h.lv i hi
 · by_cases h0:(es.getD i blz).n=0
   · exact .inl h0
   rcases h.un i h1 h2 with h3 | h3
   · exact .inl h3
   exact .inr (open_other h3 (hs.bg i h2 h0).1)
 refine (h.md i hi).same (by simp) (fun j' hj'=>World.cell?_setCell_other _ _ _ _ (adr_ne (by omega))) ?_
 by_cases h0:(es.getD i blz).n=0
 · exact .inl h0
 exact .inr fun j'=>ot _ j' (hs.bg i (by omega) h0).1
theorem Pt.below {w w':World} {g k:Nat} {vs:List Value} (h:Pt w g k vs) (hg:g<w.heap.size) (hb:Below w.heap.size w w'):Pt w' g k vs:=fun j v hv=>(hb.cell (p:=⟨g,k*8+j,none⟩) hg).trans (h j v hv)
theorem Pt.snoc {w:World} {g k n:Nat} {vs:List Value} (h:Pt w g k vs) (ho:Opn w g n) (hn:k*8+vs.length<n) (v:Value):Pt (w.setCell ⟨g,k*8+vs.length,none⟩ v) g k (vs++[v]):=by
 intro j u hu
 obtain ⟨x,hx⟩:=ho.2.1 _ hn
 by_cases e:j=vs.length
 · subst e
   rw [World.cell?_setCell_same _ _ _ hx]
   simpa using hu
 have hj:j<vs.length:=by have:=(List.getElem?_eq_some_iff.1 hu).1;simp at this;omega
 rw [List.getElem?_append_left hj] at hu
 rw [World.cell?_setCell_other _ _ _ _ (adr_ne (by omega))]
 exact h j u hu
theorem Pt.lv {w:World} {g k:Nat} {vs:List Value} (h:Pt w g k vs) {v:Value} (hv:w.cell? ⟨g,k*8+vs.length,none⟩=some v):Pt w g k (vs++[v]):=by
 intro j u hu
 by_cases e:j=vs.length
 · subst e;rw [hv];simpa using hu
 have hj:j<vs.length:=by have:=(List.getElem?_eq_some_iff.1 hu).1;simp at this;omega
 rw [List.getElem?_append_left hj] at hu
 exact h j u hu
theorem l28 {base g:Nat} {es:List Bl} {K:Int} {k:Nat} {w0 w:World} {vs:List Value} (hs:StB base g es) (h:StD base g es K k k w0 w) (hp:Pt w g k vs) (hk:k<es.length) (hz:base<=w.heap.size) (K':Int) (h1:1<=K') (h2:K'<=50000000):Calls Tryz.prog 28 #[(es.getD k blz).lv,.int .i64 K'] w fun e w'=>e=.returned (.int .i64 (K'+4*((es.getD k blz).n:Int)))/\StD base g es K k (k+1) w0 w'/\Pt w' g k vs/\((es.getD k blz).n=0\/(es.getD k blz).b<w'.heap.size)/\MarksAt K' w' (es.getD k blz).b (es.getD k blz).n/\w.heap.size<=w'.heap.size:=by
 obtain ⟨a,c,e1,e2⟩:=hs.sl k hk
 have hn:=hs.n15 _ (show es.getD k blz∈es by rw [List.getD,List.getElem?_eq_getElem hk];exact List.getElem_mem hk)
 rw [e1]
 by_cases h0:(es.getD k blz).n=0
 · refine (M.c28 K' a w.heap.size (es.getD k blz).n c w h1 (by omega) (.inl h0) (by omega) (.inl h0)).mono ?_
   rintro e w' ⟨rfl,hb,hm⟩
   have hB:Below w.heap.size w w':=⟨hb.os,hb.tape,hb.output,hb.size,fun k hk=>hb.block k hk (by omega)⟩
   have hS:=h.below (Nat.le_of_lt hk) hz hB
   exact ⟨rfl,⟨hS.opn,hS.lv,fun i h1 h2=>hS.un i (by omega) h2,hS.md,hS.bl⟩,hp.below (h.opn (ne_of hk)).1 hB,.inl h0,by rw [h0];exact fun j hj=>absurd hj (Nat.not_lt_zero _),hb.size⟩
 have ho:Open4 w (es.getD k blz).b (es.getD k blz).n:=(h.un k (Nat.le_refl _) hk).resolve_left h0
 obtain ⟨hbg,hbb⟩:=hs.bg k hk h0
 refine (M.c28 K' a (es.getD k blz).b (es.getD k blz).n c w h1 (by omega) e2 (by omega) (.inr ho)).mono ?_
 rintro e w' ⟨rfl,hb,hm⟩
 have hg:=(h.opn (ne_of hk)).1
 have blk:∀ b,b<w.heap.size->b≠(es.getD k blz).b->w'.heap[b]?=w.heap[b]?:=fun b h1 h2=>hb.block b h1 h2
 have cl:∀ b j,b<w.heap.size->b≠(es.getD k blz).b->w'.cell? ⟨b,j,none⟩=w.cell? ⟨b,j,none⟩:=fun b j h1 h2=>World.cell?_of_block (a:=⟨b,j,none⟩) (blk b h1 h2)
 have fz:∀ b j,b<w.heap.size->b≠(es.getD k blz).b->w'.frozen? ⟨b,j,none⟩=w.frozen? ⟨b,j,none⟩:=fun b j h1 h2=>World.frozen?_of_block (a:=⟨b,j,none⟩) (blk b h1 h2)
 have lt':(es.getD k blz).b<w'.heap.size:=Nat.lt_of_lt_of_le ho.1 hb.size
 refine ⟨rfl,⟨fun hn=>?_,fun i hi=>?_,fun i h1 h2=>?_,fun i hi=>?_,h.bl.trans ⟨hb.os,hb.tape,hb.output,hb.size,fun k hk=>hb.block k (by omega) (by omega)⟩⟩,fun j v hv=>?_,.inr lt',hm,hb.size⟩
 · obtain ⟨q1,q2,q3⟩:=h.opn hn
   exact ⟨Nat.lt_of_lt_of_le q1 hb.size,fun j hj=>by rw [cl g j hg (Ne.symm hbg)];exact q2 j hj,fun j=>by rw [fz g j hg (Ne.symm hbg)];exact q3 j⟩
 · rw [cl g _ hg (Ne.symm hbg)];exact h.lv i hi
 · by_cases h3:(es.getD i blz).n=0
   · exact .inl h3
   rcases h.un i (by omega) h2 with h4 | ⟨q1,q2,q3⟩
   · exact .inl h4
   have hne:=hs.ne i k h2 hk (by omega) h3 h0
   exact .inr ⟨Nat.lt_of_lt_of_le q1 hb.size,fun j hj=>by rw [cl _ j q1 hne];exact q2 j hj,fun j=>by rw [fz _ j q1 hne];exact q3 j⟩
 · refine (h.md i hi).same hb.size (fun j _=>cl g _ hg (Ne.symm hbg)) ?_
   rcases (h.md i hi).lt with h3 | h3
   · exact .inl h3
   by_cases h4:(es.getD i blz).n=0
   · exact .inl h4
   exact .inr fun j=>cl _ j h3 (hs.ne i k (by omega) hk (by omega) h4 h0)
 rw [cl g _ hg (Ne.symm hbg)];exact hp j v hv
theorem m27 (K:Int) (w:World) (h1:1<=K) (h2:K<=100000000):Calls prog 27 #[.int .i64 K] w fun e w'=>e=.returned (.string (mtx K))/\Below w.heap.size w w':=M.c27 K w h1 (by omega)
theorem StD.done {base g:Nat} {es:List Bl} {K:Int} {k:Nat} {w0 w:World} (h:StD base g es K k (k+1) w0 w) (hk:k<es.length) (hp:Pt w g k (mkV (kD K es k) (es.getD k blz))) (hl:(es.getD k blz).n=0\/(es.getD k blz).b<w.heap.size) (hm:MarksAt (kD K es k+1+1+1+1+1) w (es.getD k blz).b (es.getD k blz).n):StD base g es K (k+1) (k+1) w0 w:=
 ⟨h.opn,h.lv,h.un,fun i hi=>by
  by_cases e:i=k
  · subst e;exact ⟨hp,hl,hm⟩
  exact h.md i (by omega),h.bl⟩
theorem marks_set' {K:Int} {w:World} {b n g j:Nat} {v:Value} (h:MarksAt K w b n) (hne:n=0\/b≠g):MarksAt K (w.setCell ⟨g,j,none⟩ v) b n:=marks_same h (hne.imp id fun hne j'=>World.cell?_setCell_other _ _ _ _ (fun e=>hne (by injection e with e;exact e.symm)))
theorem c11 (base g cap:Nat) (a:Option Addr) (es:List Bl) (K:Int) (w:World) (ha:es=[]\/a=some ⟨g,0,none⟩) (hs:StB base g es) (hl:es.length<=481) (h1:1<=K) (h2:K<=1000) (hz:base<=w.heap.size) (h:StD base g es K 0 0 w w):
 Calls prog 11 #[.slice a es.length cap,.int .i64 K] w fun e w'=>e=.returned (.int .i64 (kD K es es.length))/\StD base g es K es.length es.length w w':=by
 have HH:=hidI h
 have HS:=hidI hs
 clear h
 go_enter func11,ntmps11
 go_wp2_with fail
 go_loopw [1,5] (fun q i wr=>∃ (k:Nat),k<=es.length/\i=.int .i64 k/\q=.int .i64 (kD K es k)/\Hid (StD base g es K k k w wr)) (fun _ i _=>es.length - (intOf i).toNat)
 case atStart=>exact ⟨0,Nat.zero_le _,rfl,by simp [kD],HH⟩
 clear HH
 obtain ⟨k,hk,rfl,rfl,HD⟩:=hrel
 by_cases hlt:k<es.length
 rotate_left
 · obtain rfl:k=es.length:=by omega
   go_wp2
   go_ret
   exact ⟨rfl,HD.out⟩
 have HZR:Hid (∀ (u:World) k u',StD base g es K k u' w u->base<=u.heap.size):=fun u k u' h=>Nat.le_trans hz h.bl.size
 rcases ha with ha | rfl
 · rw [ha] at hlt;cases hlt
 obtain ⟨q1,q2⟩:=kD_le K HS.out.n15 k hk
 obtain ⟨Q,HQ⟩:∃ Q,Hid (kD K es k=Q):=⟨_,rfl⟩
 rw [HQ.out] at q1 q2
 rw [HQ.out]
 have b1:1<=Q:=by omega
 have b2:Q<=40000:=by omega
 obtain ⟨ek,hek⟩:∃ e,e=es.getD k blz:=⟨_,rfl⟩
 have H28:Hid (∀ u vs,StD base g es K k k w u->Pt u g k vs->Calls prog 28 #[ek.lv,.int .i64 (Q+1+1+1+1+1)] u fun e w'=>e=.returned (.int .i64 (Q+1+1+1+1+1+4*(ek.n:Int)))/\StD base g es K k (k+1) w w'/\Pt w' g k vs/\(ek.n=0\/ek.b<w'.heap.size)/\MarksAt (Q+1+1+1+1+1) w' ek.b ek.n/\u.heap.size<=w'.heap.size):=fun u vs h hp=>by
  have:=l28 HS.out h hp hlt (HZR.out _ _ _ h) (Q+1+1+1+1+1) (by omega) (by omega)
  rw [<- hek] at this
  exact this
 have HLV:Hid (∀ u k' u',StD base g es K k' u' w u->u.cell? ⟨g,k*8+5,none⟩=some ek.lv):=fun u k' u' h=>by rw [hek];exact h.lv k hlt
 have HBG:Hid (ek.n=0\/ek.b≠g):=by
  by_cases h0:ek.n=0
  · exact .inl h0
  exact .inr (by rw [hek] at h0 ⊢;exact (HS.out.bg k hlt h0).1)
 have HDN:Hid (∀ u,StD base g es K k (k+1) w u->Pt u g k (mkV Q ek)->(ek.n=0\/ek.b<u.heap.size)->MarksAt (Q+1+1+1+1+1) u ek.b ek.n->StD base g es K (k+1) (k+1) w u):=fun u h1 h2 h3 h4=>by
  rw [hek,<- HQ.out] at h2
  rw [hek] at h3 h4
  rw [<- HQ.out] at h4
  exact h1.done hlt h2 h3 h4
 have HKK:Hid (kD K es (k+1)=Q+7+4*(ek.n:Int)):=by show _=_;rw [kD_succ hlt,HQ.out,hek]
 have hn15:ek.n<=15:=by rw [hek];exact HS.out.n15 _ (by rw [List.getD,List.getElem?_eq_getElem hlt];exact List.getElem_mem hlt)
 obtain ⟨a5,c5,e1,e2⟩:=HS.out.sl k hlt
 rw [<- hek] at e1
 obtain ⟨lv,b,n⟩:=ek
 dsimp only at e1 H28 HLV HBG HDN HKK hn15
 subst e1
 have hne:es≠[]:=ne_of hlt
 have SET:Hid (∀ u (k':Nat) u' j v,StD base g es K k u' w u->j<8->j≠5->StD base g es K k u' w (u.setCell ⟨g,k*8+j,none⟩ v)):=fun u k' u' j v h h1 h2=>h.set HS.out hlt h1 h2 v
 have BEL:Hid (∀ u u' u'',StD base g es K k u' w u->Below u.heap.size u u''->StD base g es K k u' w u''):=fun u u' u'' h hb=>h.below (Nat.le_of_lt hlt) (HZR.out _ _ _ h) hb
 have OPN:Hid (∀ u u',StD base g es K k u' w u->Opn u g (es.length*8)):=fun u u' h=>h.opn hne
 have P0:Hid (Pt wr g k []):=fun j v h=>by cases h
 clear hek e2 hs q1 q2 h1 h2
 go_wp2_with fail
 refine (m27 Q _ (by omega) (by omega)).mono ?_
 rintro e w1 ⟨rfl,hb1⟩
 have S1:=hidI (BEL.out _ _ _ HD.out hb1)
 have P1:=hidI (P0.out.below (OPN.out _ _ HD.out).1 hb1)
 obtain ⟨v0,g0⟩:=(OPN.out _ _ S1.out).2.1 (k*8) (by omega)
 have f0:=(OPN.out _ _ S1.out).2.2 (k*8)
 have S1a:Hid (StD base g es K k k w (w1.setCell ⟨g,k*8,none⟩ (.string (mtx Q)))):=hidI (SET.out w1 k k 0 _ S1.out (by omega) (by omega))
 have P1a:Hid (Pt (w1.setCell ⟨g,k*8,none⟩ (.string (mtx Q))) g k [.string (mtx Q)]):=hidI (P1.out.snoc (OPN.out _ _ S1.out) (by simp;omega) _)
 obtain ⟨v1,g1⟩:=(OPN.out _ _ S1a.out).2.1 (k*8+1) (by omega)
 have f1:=(OPN.out _ _ S1a.out).2.2 (k*8+1)
 clear hb1 HD P0
 go_wp2_with fail
 refine (m27 (Q+1+1) _ (by omega) (by omega)).mono ?_
 rintro e w2 ⟨rfl,hb2⟩
 have S1b:=SET.out _ k k 1 (.bool ((Q+1) % 3==0)) S1a.out (by omega) (by omega)
 have P1b:=P1a.out.snoc (OPN.out _ _ S1a.out) (by simp;omega) (.bool ((Q+1) % 3==0))
 have S2:=hidI (BEL.out _ _ _ S1b hb2)
 have P2:=hidI (P1b.below (OPN.out _ _ S1b).1 hb2)
 clear hb2 S1 P1 S1a P1a S1b P1b g0 f0 g1 f1
 obtain ⟨v2,g2⟩:=(OPN.out _ _ S2.out).2.1 (k*8+2) (by omega)
 have f2:=(OPN.out _ _ S2.out).2.2 (k*8+2)
 go_wp2_with fail
 refine (m27 (Q+1+1+1) _ (by omega) (by omega)).mono ?_
 rintro e w3 ⟨rfl,hb3⟩
 have Sa:=SET.out _ k k 2 (.string (mtx (Q+1+1))) S2.out (by omega) (by omega)
 have Pa:=P2.out.snoc (OPN.out _ _ S2.out) (by simp;omega) (.string (mtx (Q+1+1)))
 have S3:=hidI (BEL.out _ _ _ Sa hb3)
 have P3:=hidI (Pa.below (OPN.out _ _ Sa).1 hb3)
 clear hb3 S2 P2 Sa Pa g2 f2
 obtain ⟨v3,g3⟩:=(OPN.out _ _ S3.out).2.1 (k*8+3) (by omega)
 have f3:=(OPN.out _ _ S3.out).2.2 (k*8+3)
 go_wp2_with fail
 refine (m27 (Q+1+1+1+1) _ (by omega) (by omega)).mono ?_
 rintro e w4 ⟨rfl,hb4⟩
 have Sa:=SET.out _ k k 3 (.string (mtx (Q+1+1+1))) S3.out (by omega) (by omega)
 have Pa:=P3.out.snoc (OPN.out _ _ S3.out) (by simp;omega) (.string (mtx (Q+1+1+1)))
 have S4:=hidI (BEL.out _ _ _ Sa hb4)
 have P4:=hidI (Pa.below (OPN.out _ _ Sa).1 hb4)
 clear hb4 S3 P3 Sa Pa g3 f3
 obtain ⟨v4,g4⟩:=(OPN.out _ _ S4.out).2.1 (k*8+4) (by omega)
 have f4:=(OPN.out _ _ S4.out).2.2 (k*8+4)
 have Sa:Hid (StD base g es K k k w (w4.setCell ⟨g,k*8+4,none⟩ (.string (mtx (Q+1+1+1+1))))):=hidI (SET.out _ k k 4 (.string (mtx (Q+1+1+1+1))) S4.out (by omega) (by omega))
 have Pa:=hidI (P4.out.snoc (OPN.out _ _ S4.out) (by simp;omega) (.string (mtx (Q+1+1+1+1))))
 have g5:=HLV.out _ _ _ Sa.out
 have h28:=H28.out _ _ Sa.out Pa.out
 go_wp2_with fail
 refine h28.mono ?_
 rintro e w5 ⟨rfl,S5,P5,lt5,m5,z5⟩
 have P5l:=P5.lv (v:=.slice a5 n c5) (HLV.out _ _ _ S5)
 obtain ⟨v6,g6⟩:=(OPN.out _ _ S5).2.1 (k*8+6) (by omega)
 have f6:=(OPN.out _ _ S5).2.2 (k*8+6)
 have HS5:=hidI S5
 have HP5:=hidI P5l
 have HM5:=hidI m5
 have HT5:=hidI lt5
 clear S4 P4 Sa Pa g4 f4 g5 h28 S5 P5 P5l m5 lt5 z5 H28
 go_wp2_with fail
 refine (m27 (Q+1+1+1+1+1+4*(n:Int)+1) _ (by omega) (by omega)).mono ?_
 rintro e w6 ⟨rfl,hb6⟩
 have Sa:=SET.out _ k _ 6 (.int .i64 (Q+1+1+1+1+1+4*(n:Int))) HS5.out (by omega) (by omega)
 have Pa:=HP5.out.snoc (OPN.out _ _ HS5.out) (by simp;omega) (.int .i64 (Q+1+1+1+1+1+4*(n:Int)))
 have S6:=hidI (BEL.out _ _ _ Sa hb6)
 have P6:=hidI (Pa.below (OPN.out _ _ Sa).1 hb6)
 have T6:Hid (n=0\/b<w6.heap.size):=hidI (HT5.out.imp id fun h=>Nat.lt_of_lt_of_le (by simpa using h) hb6.size)
 have M6:Hid (MarksAt (Q+1+1+1+1+1) w6 b n):=hidI (marks_same (marks_set' HM5.out HBG.out) (HT5.out.imp id fun h j=>hb6.cell (p:=⟨b,j,none⟩) (by simpa using h)))
 obtain ⟨v7,g7⟩:=(OPN.out _ _ S6.out).2.1 (k*8+7) (by omega)
 have f7:=(OPN.out _ _ S6.out).2.2 (k*8+7)
 clear hb6 HS5 HP5 HM5 HT5 Sa Pa g6 f6
 go_wp2
 go_roundw
 case rel=>
  refine ⟨k+1,by omega,by go_num,?_,HDN.out _ (SET.out _ k _ 7 _ S6.out (by omega) (by omega)) (P6.out.snoc (OPN.out _ _ S6.out) (by simp;omega) _) (T6.out.imp id fun h=>by simpa using h) (marks_set' M6.out HBG.out)⟩
  rw [HKK.out]
  congr 1
  omega
 case measure=>simp [intOf];omega
theorem c12 (base g cap:Nat) (a:Option Addr) (es:List Bl) (K:Int) (w:World) (ha:es=[]\/a=some ⟨g,0,none⟩) (hs:StB base g es) (hl:es.length<=481) (h1:1<=K) (h2:K<=1000) (hg:es≠[]->g<w.heap.size) (h:∀ i,i<es.length->Mkd1 (kD K es i) g i (es.getD i blz) w):
 Calls Tryz.prog 12 #[.slice a es.length cap,.int .i64 K] w fun e w'=>e=.returned (.int .i64 (kD K es es.length))/\Below w.heap.size w w':=by
 have HH:=hidI h
 have HS:=hidI hs
 have HG:=hidI hg
 clear h hg hs
 go_enter Tryz.func12,Tryz.ntmps12
 go_wp2_with fail
 go_loopw [1,5] (fun q i wr=>∃ (k:Nat),k<=es.length/\i=.int .i64 k/\q=.int .i64 (kD K es k)/\Below w.heap.size w wr) (fun _ i _=>es.length - (intOf i).toNat)
 case atStart=>exact ⟨0,Nat.zero_le _,rfl,by simp [kD],Below.refl _ _⟩
 obtain ⟨k,hk,rfl,rfl,hb⟩:=hrel
 by_cases hlt:k<es.length
 rotate_left
 · obtain rfl:k=es.length:=by omega
   go_wp2
   go_ret
   exact ⟨rfl,hb⟩
 rcases ha with ha | rfl
 · rw [ha] at hlt;cases hlt
 have hgw:=HG.out (ne_of hlt)
 obtain ⟨q1,q2⟩:=kD_le K HS.out.n15 k hk
 have HC0:=HH.out k hlt
 have HKK0:=kD_succ (K:=K) hlt
 have hn15:(es.getD k blz).n<=15:=HS.out.n15 _ (by rw [List.getD,List.getElem?_eq_getElem hlt];exact List.getElem_mem hlt)
 obtain ⟨a5,c5,e1,e2⟩:=HS.out.sl k hlt
 generalize es.getD k blz=ek at*
 have HKK:=hidI HKK0
 generalize kD K es k=Q at*
 have HC:Hid (∀ u,Below w.heap.size w u->Mkd1 Q g k ek u):=fun u hu=>HC0.below hgw hu
 have b1:1<=Q:=by omega
 have b2:Q<=40000:=by omega
 obtain ⟨lv,b,n⟩:=ek
 dsimp only at e1 e2 hn15 HKK
 subst e1
 have HE2:=hidI e2
 clear HC0 HKK0 q1 q2 h1 h2 e2
 have gx:wr.cell? ⟨g,k*8,none⟩=some (.string (mtx (Q))):=(HC.out wr hb).c 0 _ rfl
 have h27:=fun u=>m27 (Q) u (by omega) (by omega)
 have gl:g<wr.heap.size:=Nat.lt_of_lt_of_le hgw hb.size
 generalize mtx (Q)=mx at*
 go_wp2_with fail
 refine wp_region_held_drew (S:=(fun u=>u.cell? ⟨g,k*8,none⟩=some (.string mx))) (by kernel_rfl) ?_ (fun hH=>?_)
 · exact gx
 refine tq 0 hH ?_
 refine tq 1 hH ?_
 refine tq 2 hH ?_
 refine tq 3 hH ?_
 refine tq 4 hH ?_ (v:=?_) (hv:=?e)
 case e=>intro wq hSw;(try dsimp only at hSw);go_simp;try with_reducible rfl
 refine tq 5 hH ?_
 try simp only [qq]
 refine rq 6 (fun K hK=>?_)
 go_simp
 refine (h27 _).mono ?_
 rintro e w1 ⟨rfl,hb0⟩
 have hbx:=(Below.refl wr.heap.size wr).drew.trans hb0
 go_wp2_with fail
 clear hH
 refine hK.out _ _ ?_ (fun hH=>?_)
 · exact (hbx.cell (p:=⟨g,k*8,none⟩) gl).trans gx
 clear hK K
 refine tq 7 hH ?_
 try simp only [qq]
 refine wpAnyH_done (by kernel_rfl) ?_ _
 have hBw1:=hb.trans (hbx.mono hb.size)
 clear gx h27 gl hb0 hbx hH
 have g1:w1.cell? ⟨g,k*8+1,none⟩=some (.bool ((Q+1) % 3==0)):=(HC.out w1 hBw1).c 1 _ rfl
 have gx:w1.cell? ⟨g,k*8+2,none⟩=some (.string (mtx (Q+1+1))):=(HC.out w1 hBw1).c 2 _ rfl
 have h27:=fun u=>m27 (Q+1+1) u (by omega) (by omega)
 have gl:g<w1.heap.size:=Nat.lt_of_lt_of_le hgw hBw1.size
 generalize mtx (Q+1+1)=mx at*
 go_wp2_with fail
 refine wp_region_held_drew (S:=(fun u=>u.cell? ⟨g,k*8+2,none⟩=some (.string mx))) (by kernel_rfl) ?_ (fun hH=>?_)
 · exact gx
 refine tq 0 hH ?_
 refine tq 1 hH ?_
 refine tq 2 hH ?_
 refine tq 3 hH ?_
 refine tq 4 hH ?_
 refine tq 5 hH ?_ (v:=?_) (hv:=?e)
 case e=>intro wq hSw;(try dsimp only at hSw);go_simp;try with_reducible rfl
 refine tq 6 hH ?_
 try simp only [qq]
 refine rq 7 (fun K hK=>?_)
 go_simp
 refine (h27 _).mono ?_
 rintro e w2 ⟨rfl,hb0⟩
 have hbx:=(Below.refl w1.heap.size w1).drew.trans hb0
 go_wp2_with fail
 clear hH
 refine hK.out _ _ ?_ (fun hH=>?_)
 · exact (hbx.cell (p:=⟨g,k*8+2,none⟩) gl).trans gx
 clear hK K
 refine tq 8 hH ?_
 try simp only [qq]
 refine wpAnyH_done (by kernel_rfl) ?_ _
 have hBw2:=hBw1.trans (hbx.mono hBw1.size)
 clear g1 gx h27 gl hb0 hbx hH
 have gx:w2.cell? ⟨g,k*8+3,none⟩=some (.string (mtx (Q+1+1+1))):=(HC.out w2 hBw2).c 3 _ rfl
 have h27:=fun u=>m27 (Q+1+1+1) u (by omega) (by omega)
 have gl:g<w2.heap.size:=Nat.lt_of_lt_of_le hgw hBw2.size
 generalize mtx (Q+1+1+1)=mx at*
 go_wp2_with fail
 refine wp_region_held_drew (S:=(fun u=>u.cell? ⟨g,k*8+3,none⟩=some (.string mx))) (by kernel_rfl) ?_ (fun hH=>?_)
 · exact gx
 refine tq 0 hH ?_
 refine tq 1 hH ?_
 refine tq 2 hH ?_
 refine tq 3 hH ?_
 refine tq 4 hH ?_
 refine tq 5 hH ?_ (v:=?_) (hv:=?e)
 case e=>intro wq hSw;(try dsimp only at hSw);go_simp;try with_reducible rfl
 refine tq 6 hH ?_
 try simp only [qq]
 refine rq 7 (fun K hK=>?_)
 go_simp
 refine (h27 _).mono ?_
 rintro e w3 ⟨rfl,hb0⟩
 have hbx:=(Below.refl w2.heap.size w2).drew.trans hb0
 go_wp2_with fail
 clear hH
 refine hK.out _ _ ?_ (fun hH=>?_)
 · exact (hbx.cell (p:=⟨g,k*8+3,none⟩) gl).trans gx
 clear hK K
 refine tq 8 hH ?_
 try simp only [qq]
 refine wpAnyH_done (by kernel_rfl) ?_ _
 have hBw3:=hBw2.trans (hbx.mono hBw2.size)
 clear gx h27 gl hb0 hbx hH
 have gx:w3.cell? ⟨g,k*8+4,none⟩=some (.string (mtx (Q+1+1+1+1))):=(HC.out w3 hBw3).c 4 _ rfl
 have h27:=fun u=>m27 (Q+1+1+1+1) u (by omega) (by omega)
 have gl:g<w3.heap.size:=Nat.lt_of_lt_of_le hgw hBw3.size
 generalize mtx (Q+1+1+1+1)=mx at*
 go_wp2_with fail
 refine wp_region_held_drew (S:=(fun u=>u.cell? ⟨g,k*8+4,none⟩=some (.string mx))) (by kernel_rfl) ?_ (fun hH=>?_)
 · exact gx
 refine tq 0 hH ?_
 refine tq 1 hH ?_
 refine tq 2 hH ?_
 refine tq 3 hH ?_
 refine tq 4 hH ?_
 refine tq 5 hH ?_ (v:=?_) (hv:=?e)
 case e=>intro wq hSw;(try dsimp only at hSw);go_simp;try with_reducible rfl
 refine tq 6 hH ?_
 try simp only [qq]
 refine rq 7 (fun K hK=>?_)
 go_simp
 refine (h27 _).mono ?_
 rintro e w4 ⟨rfl,hb0⟩
 have hbx:=(Below.refl w3.heap.size w3).drew.trans hb0
 go_wp2_with fail
 clear hH
 refine hK.out _ _ ?_ (fun hH=>?_)
 · exact (hbx.cell (p:=⟨g,k*8+4,none⟩) gl).trans gx
 clear hK K
 refine tq 8 hH ?_
 try simp only [qq]
 refine wpAnyH_done (by kernel_rfl) ?_ _
 have hBw4:=hBw3.trans (hbx.mono hBw3.size)
 clear gx h27 gl hb0 hbx hH
 have g5:w4.cell? ⟨g,k*8+5,none⟩=some (.slice a5 n c5):=(HC.out w4 hBw4).c 5 _ rfl
 have h29:=M.c29 (Q+1+1+1+1+1) a5 b n c5 w4 (by omega) (by omega) HE2.out (by omega) (HC.out w4 hBw4).lt (HC.out w4 hBw4).m
 go_wp2_with fail
 refine h29.mono ?_
 rintro e w5 ⟨rfl,hb5⟩
 have hBw5:=hBw4.trans (hb5.mono hBw4.size)
 have g6:w5.cell? ⟨g,k*8+6,none⟩=some (.int .i64 (Q+1+1+1+1+1+4*(n:Int))):=(HC.out w5 hBw5).c 6 _ rfl
 have hk0:¬ (Q+1+1+1+1+1+4*(n:Int)<0):=by omega
 clear g5 h29 hb5
 have gx:w5.cell? ⟨g,k*8+7,none⟩=some (.string (mtx (Q+1+1+1+1+1+4*(n:Int)+1))):=(HC.out w5 hBw5).c 7 _ rfl
 have h27:=fun u=>m27 (Q+1+1+1+1+1+4*(n:Int)+1) u (by omega) (by omega)
 have gl:g<w5.heap.size:=Nat.lt_of_lt_of_le hgw hBw5.size
 generalize mtx (Q+1+1+1+1+1+4*(n:Int)+1)=mx at*
 go_wp2_with fail
 refine wp_region_held_drew (S:=(fun u=>u.cell? ⟨g,k*8+7,none⟩=some (.string mx))) (by kernel_rfl) ?_ (fun hH=>?_)
 · exact gx
 refine tq 0 hH ?_
 refine tq 1 hH ?_
 refine tq 2 hH ?_
 refine tq 3 hH ?_
 refine tq 4 hH ?_
 refine tq 5 hH ?_ (v:=?_) (hv:=?e)
 case e=>intro wq hSw;(try dsimp only at hSw);go_simp;try with_reducible rfl
 refine tq 6 hH ?_
 try simp only [qq]
 refine rq 7 (fun K hK=>?_)
 go_simp
 refine (h27 _).mono ?_
 rintro e w6 ⟨rfl,hb0⟩
 have hbx:=(Below.refl w5.heap.size w5).drew.trans hb0
 go_wp2_with fail
 clear hH
 refine hK.out _ _ ?_ (fun hH=>?_)
 · exact (hbx.cell (p:=⟨g,k*8+7,none⟩) gl).trans gx
 clear hK K
 refine tq 8 hH ?_
 try simp only [qq]
 refine wpAnyH_done (by kernel_rfl) ?_ _
 have hBw6:=hBw5.trans (hbx.mono hBw5.size)
 clear g6 hk0 gx h27 gl hb0 hbx hH
 go_wp2
 go_roundw
 case rel=>
  refine ⟨k+1,by omega,by go_num,?_,hBw6⟩
  rw [HKK.out]
  congr 1
  omega
 case measure=>simp [intOf];omega
