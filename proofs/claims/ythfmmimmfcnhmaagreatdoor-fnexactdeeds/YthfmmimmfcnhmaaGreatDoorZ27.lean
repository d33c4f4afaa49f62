import Derived.Test.YthfmmimmfcnhmaaGreatDoorCM
set_option maxHeartbeats 8000000
namespace Go.Proofs.YthfmmimmfcnhmaaGreatDoor.G.T
open Proofs.Tryz
open Go.RowKit
structure F2 where
 nm:ByteArray
 tx:ByteArray
def f2z:F2:=⟨⟨#[]⟩,⟨#[]⟩⟩
def FilesAt (w:World) (a:Option Addr) (rs:List F2):Prop:=
 rs=[]\/∃ b off,a=some ⟨b,off,none⟩/\b<w.heap.size/\∀ i,i<rs.length->w.cell? ⟨b,off+i*2,none⟩=some (.string (rs.getD i f2z).nm)/\w.cell? ⟨b,off+i*2+1,none⟩=some (.string (rs.getD i f2z).tx)
theorem files_some {w:World} {a:Option Addr} {rs:List F2} (h:FilesAt w a rs):∃ b off,(rs=[]\/(a=some ⟨b,off,none⟩/\b<w.heap.size/\∀ i,i<rs.length->w.cell? ⟨b,off+i*2,none⟩=some (.string (rs.getD i f2z).nm)/\w.cell? ⟨b,off+i*2+1,none⟩=some (.string (rs.getD i f2z).tx))):=by
 rcases h with h | ⟨b,off,h⟩
 · exact ⟨0,0,.inl h⟩
 exact ⟨b,off,.inr h⟩
theorem files_below {w w':World} {a:Option Addr} {rs:List F2} (h:FilesAt w a rs) (hb:Below w.heap.size w w'):FilesAt w' a rs:=by
 rcases h with h | ⟨b,off,h1,h2,h3⟩
 · exact .inl h
 exact .inr ⟨b,off,h1,Nat.lt_of_lt_of_le h2 hb.size,fun i hi=>by rw [hb.cell (by exact h2),hb.cell (by exact h2)];exact h3 i hi⟩
def F2.le (x:F2) (B:Nat):Prop:=x.nm.size<=B/\x.tx.size<=B
theorem getD_small2 {rs:List F2} {B:Nat} (h:∀ i,i<rs.length->(rs.getD i f2z).le B) (i:Nat):(rs.getD i f2z).le B:=by
 rcases Nat.lt_or_ge i rs.length with h' | h'
 · exact h i h'
 have e:rs.getD i f2z=f2z:=by simp [List.getD,List.getElem?_eq_none h']
 rw [e];exact ⟨Nat.zero_le _,Nat.zero_le _⟩
theorem c30 (x:F2) (l:Int) (w:World) (hs:x.le 9223372036854775807) (h0:0<=l) (h1:l<=1048576):
 Calls prog 30 #[.agg #[.string x.nm,.string x.tx],.int .i64 l] w fun e w'=>(∃ r:Int,e=.returned (.int .i64 r)/\(0<=r->x.le 1048576/\r<=1048576))/\Below w.heap.size w w':=by
 obtain ⟨hs1,hs2⟩:=hs
 by_cases h:l<x.nm.size
 · go_enter func30,ntmps30
   go_wp2
   go_ret
   exact ⟨⟨-1,rfl,fun h=>by omega⟩,(Below.refl _ _).alloc (Nat.le_refl _) _⟩
 by_cases h':l - x.nm.size<x.tx.size
 · go_enter func30,ntmps30
   go_wp2
   go_ret
   exact ⟨⟨-1,rfl,fun h=>by omega⟩,(Below.refl _ _).alloc (Nat.le_refl _) _⟩
 go_enter func30,ntmps30
 go_wp2
 go_ret
 exact ⟨⟨_,rfl,fun h=>⟨⟨by omega,by omega⟩,by omega⟩⟩,(Below.refl _ _).alloc (Nat.le_refl _) _⟩
theorem c13 (a:Option Addr) (cap:Nat) (rs:List F2) (l:Int) (w:World) (hs:∀ i,(rs.getD i f2z).le 9223372036854775807) (hl:rs.length<=9223372036854775807) (hat:FilesAt w a rs) (h0:0<=l) (h1:l<=1048576):
 Calls prog 13 #[.slice a rs.length cap,.int .i64 l] w fun e w'=>(∃ r:Int,e=.returned (.int .i64 r)/\(0<=r->rs.length<=1048576/\(∀ i,(rs.getD i f2z).le 1048576)/\r<=1048576))/\Below w.heap.size w w':=by
 obtain ⟨b,off,hc⟩:=files_some hat
 have HC:Hid (rs=[]\/(a=some ⟨b,off,none⟩/\b<w.heap.size/\∀ i,i<rs.length->w.cell? ⟨b,off+i*2,none⟩=some (.string (rs.getD i f2z).nm)/\w.cell? ⟨b,off+i*2+1,none⟩=some (.string (rs.getD i f2z).tx))):=hc
 clear hc hat
 by_cases hbig:l<rs.length
 · go_enter func13,ntmps13
   go_wp2
   go_ret
   exact ⟨⟨-1,rfl,fun h=>by omega⟩,Below.refl _ _⟩
 go_enter func13,ntmps13
 go_wp2_with fail
 go_loopw [1,5] (fun l i wr=>∃ (k:Nat) (r:Int),k<=rs.length/\i=.int .i64 k/\l=.int .i64 r/\0<=r/\r<=1048576/\Hid (∀ i,i<k->(rs.getD i f2z).le 1048576)/\Below w.heap.size w wr) (fun _ i _=>rs.length - (intOf i).toNat)
 case atStart=>exact ⟨0,_,Nat.zero_le _,rfl,rfl,by omega,by omega,fun i h=>absurd h (Nat.not_lt_zero _),Below.refl _ _⟩
 obtain ⟨k,r,hk,rfl,rfl,hr0,hr1,hsm,hb⟩:=hrel
 by_cases hlt:k<rs.length
 rotate_left
 · have hsm':Hid (∀ i,(rs.getD i f2z).le 1048576):=getD_small2 (fun i h=>hsm.out i (by omega))
   go_wp2
   go_ret
   exact ⟨⟨r,rfl,fun _=>⟨by omega,hsm'.out,hr1⟩⟩,hb⟩
 rcases HC.out with hss | ⟨ha,hbw,hcell⟩
 · rw [hss] at hlt;exact absurd hlt (Nat.not_lt_zero _)
 subst ha
 have g0:=(hb.cell (p:=⟨b,off+k*2,none⟩) hbw).trans (hcell k hlt).1
 have g1:=(hb.cell (p:=⟨b,off+k*2+1,none⟩) hbw).trans (hcell k hlt).2
 have hxs:=hs k
 generalize hx:rs.getD k f2z=x at*
 have HX:Hid (rs.getD k f2z=x):=hx
 clear hx hcell
 go_wp2_with fail
 refine (c30 x r wr hxs hr0 hr1).mono ?_
 rintro e w1 ⟨⟨r1,rfl,hr⟩,hb1⟩
 have hB1:Below w.heap.size w w1:=hb.trans (hb1.mono hb.size)
 by_cases hneg:r1<0
 · clear hr
   go_wp2
   go_ret
   exact ⟨⟨-1,rfl,fun h=>by omega⟩,hB1⟩
 have hr':=hr (by omega)
 have hsm':Hid (∀ i,i<k+1->(rs.getD i f2z).le 1048576):=by
  intro i h
  rcases Nat.lt_or_ge i k with h1 | h1
  · exact hsm.out i h1
  obtain rfl:i=k:=by omega
  rw [HX.out];exact hr'.1
 clear hr
 go_wp2
 go_roundw
 case rel=>exact ⟨k+1,_,by omega,by go_num,rfl,by omega,hr'.2,hsm',hB1⟩
 case measure=>simp [intOf];omega
theorem c38b (x:F2) (w:World):
 Calls prog 38 #[.agg #[.string x.nm,.string x.tx]] w fun e w'=>e=.returned (.agg #[.string x.nm,.string x.tx])/\Below w.heap.size w w':=by
 go_enter func38,ntmps38
 go_wp2
 refine bodyPost_ret (v:=.agg #[.string x.nm,.string x.tx]) (by simp [results,Tryz.results38,go_sem]) rfl ⟨rfl,?_⟩
 exact (((Below.refl _ _).alloc (Nat.le_refl _) _).alloc (by simp) _).alloc (by simp;omega) _
theorem set2_other (u:World) (B j m:Nat) (v0 v1:Value) (h0:m≠j) (h1:m≠j+1):((u.setCell ⟨B,j,none⟩ v0).setCell ⟨B,j+1,none⟩ v1).cell? ⟨B,m,none⟩=u.cell? ⟨B,m,none⟩:=by
 rw [World.cell?_setCell_other _ _ _ _ (adr_ne (Ne.symm h1)),World.cell?_setCell_other _ _ _ _ (adr_ne (Ne.symm h0))]
theorem info64:(prog.info? 64).map (fun i=>(i.zero,i.size,i.bytes))=some (some (.agg #[.string ⟨#[]⟩,.string ⟨#[]⟩]),2,32):=by kernel_rfl
theorem made2 (n j:Nat) (h:j<n*2):(madeCells #[Value.string ⟨#[]⟩,.string ⟨#[]⟩] (n*2))[j]?=(#[Value.string ⟨#[]⟩,.string ⟨#[]⟩]:Array Value)[j % 2]?:=by
 have h3:j % 2<2:=Nat.mod_lt _ (by omega)
 rw [Array.getElem?_eq_getElem (by simpa [size_madeCells] using h),Array.getElem?_eq_getElem (by simpa using h3)]
 simp [madeCells,h3]
def Unf (w:World) (g:Nat):Prop:=g<w.heap.size/\∀ j,w.frozen? ⟨g,j,none⟩=false
theorem Unf.set {w:World} {g:Nat} {p:Addr} {v:Value} (h:Unf w g):Unf (w.setCell p v) g:=⟨by simpa using h.1,fun j=>by simpa using h.2 j⟩
theorem c18 (a:Option Addr) (cap:Nat) (rs:List F2) (w:World) (hl:rs.length<=1048576) (hat:FilesAt w a rs):
 Calls prog 18 #[.slice a rs.length cap] w fun e w'=>(e=.returned (.slice (some ⟨w.heap.size,0,none⟩) rs.length rs.length)/\FilesAt w' (some ⟨w.heap.size,0,none⟩) rs/\Unf w' w.heap.size)/\Below w.heap.size w w':=by
 obtain ⟨b,off,hc⟩:=files_some hat
 have HC:Hid (rs=[]\/(a=some ⟨b,off,none⟩/\b<w.heap.size/\∀ i,i<rs.length->w.cell? ⟨b,off+i*2,none⟩=some (.string (rs.getD i f2z).nm)/\w.cell? ⟨b,off+i*2+1,none⟩=some (.string (rs.getD i f2z).tx))):=hc
 clear hc hat
 obtain ⟨i0,hi,hz0,hz1,hz2⟩:=info_parts info64
 have hmk:∀ u:World,(Instr.makeSlice 28 (.int .i64 (rs.length:Int)) (.int .i64 (rs.length:Int))).run prog u=
  .ok (.slice (some ⟨u.heap.size,0,none⟩) rs.length rs.length) (u.alloc (.cells (madeCells #[.string ⟨#[]⟩,.string ⟨#[]⟩] (rs.length*2)) 64)):=fun u=>by
  have h:=run_make (P:=prog) u 28 64 i0 (.agg #[.string ⟨#[]⟩,.string ⟨#[]⟩]) underlying28 hi hz0 .i64 .i64 (rs.length:Int) (rs.length:Int) (by omega) (Int.le_refl _) (by rw [hz2];omega) (by omega)
  simpa [hz1,Value.cells] using h
 go_enter func18,ntmps18
 go_wp2_with fail
 go_loopw [4] (fun i wr=>∃ (k:Nat),k<=rs.length/\i=.int .i64 k/\Below w.heap.size w wr/\w.heap.size+1<=wr.heap.size/\(∀ j,wr.frozen? ⟨w.heap.size,j,none⟩=false)/\Hid (∀ j,j<k->wr.cell? ⟨w.heap.size,j*2,none⟩=some (.string (rs.getD j f2z).nm)/\wr.cell? ⟨w.heap.size,j*2+1,none⟩=some (.string (rs.getD j f2z).tx))/\Hid (∀ j,k<=j->j<rs.length->wr.cell? ⟨w.heap.size,j*2,none⟩=some (.string ⟨#[]⟩)/\wr.cell? ⟨w.heap.size,j*2+1,none⟩=some (.string ⟨#[]⟩))) (fun i _=>rs.length - (intOf i).toNat)
 case atStart=>
  refine ⟨0,Nat.zero_le _,rfl,(Below.refl _ _).alloc (Nat.le_refl _) _,by simp,fun j=>by simp,fun j h=>absurd h (Nat.not_lt_zero _),fun j _ h=>?_⟩
  have e0:=made2 rs.length (j*2) (by omega)
  have e1:=made2 rs.length (j*2+1) (by omega)
  rw [show j*2 % 2=0 by omega] at e0
  rw [show (j*2+1) % 2=1 by omega] at e1
  simp [e0,e1]
 obtain ⟨k,hk,rfl,hb,hz,hfz,hdone,hrest⟩:=hrel
 by_cases hlt:k<rs.length
 rotate_left
 · have hdone':Hid (FilesAt wr (some ⟨w.heap.size,0,none⟩) rs):=.inr ⟨w.heap.size,0,rfl,by omega,fun i hi=>by simp only [Nat.zero_add];exact hdone.out i (by omega)⟩
   have hop:Hid (Unf wr w.heap.size):=⟨by omega,hfz⟩
   go_wp2
   go_ret
   exact ⟨⟨rfl,hdone'.out,hop.out⟩,hb⟩
 rcases HC.out with hss | ⟨ha,hbw,hcell⟩
 · rw [hss] at hlt;exact absurd hlt (Nat.not_lt_zero _)
 subst ha
 have g0:=(hb.cell (p:=⟨b,off+k*2,none⟩) hbw).trans (hcell k hlt).1
 have g1:=(hb.cell (p:=⟨b,off+k*2+1,none⟩) hbw).trans (hcell k hlt).2
 obtain ⟨q0,q1⟩:=hrest.out k (Nat.le_refl _) hlt
 generalize hx:rs.getD k f2z=x at*
 have HX:Hid (rs.getD k f2z=x):=hx
 clear hx hcell
 go_wp2_with fail
 refine (c38b x wr).mono ?_
 rintro e w1 ⟨rfl,hb1⟩
 have hB1:Below w.heap.size w w1:=hb.trans (hb1.mono hb.size)
 have p0:=(hb1.cell (p:=⟨w.heap.size,k*2,none⟩) (by simp;omega)).trans q0
 have p1:=(hb1.cell (p:=⟨w.heap.size,k*2+1,none⟩) (by simp;omega)).trans q1
 have f0:=(hb1.frozen (p:=⟨w.heap.size,k*2,none⟩) (by simp;omega)).trans (hfz _)
 have f1:=(hb1.frozen (p:=⟨w.heap.size,k*2+1,none⟩) (by simp;omega)).trans (hfz _)
 have hold:∀ j,w1.cell? ⟨w.heap.size,j,none⟩=wr.cell? ⟨w.heap.size,j,none⟩:=fun j=>hb1.cell (by simp;omega)
 have HO:Hid (∀ j,w1.cell? ⟨w.heap.size,j,none⟩=wr.cell? ⟨w.heap.size,j,none⟩):=hold
 have hoz:w.heap.size+1<=w1.heap.size:=Nat.le_trans hz hb1.size
 have HFZ:Hid (∀ j,w1.frozen? ⟨w.heap.size,j,none⟩=false):=fun j=>(hb1.frozen (p:=⟨w.heap.size,j,none⟩) (by simp;omega)).trans (hfz j)
 clear hold
 go_wp2
 go_roundw
 case rel=>
  refine ⟨k+1,by omega,by go_num,(hB1.setCell (by simp) _).setCell (by simp) _,by simpa using hoz,fun j=>by rw [<- HFZ.out j];simp,fun j hj=>?_,fun j h1 h2=>?_⟩
  · by_cases e:j=k
    · subst e
      rw [HX.out]
      exact set2_at w1 w.heap.size (j*2) _ _ _ _ p0 p1
    have hd:=hdone.out j (by omega)
    rw [set2_other _ _ _ _ _ _ (by omega) (by omega),set2_other _ _ _ _ _ _ (by omega) (by omega),HO.out,HO.out]
    exact hd
  have hd:=hrest.out j (by omega) h2
  rw [set2_other _ _ _ _ _ _ (by omega) (by omega),set2_other _ _ _ _ _ _ (by omega) (by omega),HO.out,HO.out]
  exact hd
 case measure=>simp [intOf];omega
theorem c52 (x:F2) (w:World):
 Calls prog 52 #[.agg #[.string x.nm,.string x.tx],.agg #[.string x.nm,.string x.tx]] w fun e w'=>e=.returned (.bool true)/\Below w.heap.size w w':=by
 go_enter func52,ntmps52
 go_wp2
 go_ret
 exact ⟨rfl,((Below.refl _ _).alloc (Nat.le_refl _) _).alloc (by simp) _⟩
theorem c25 (a a':Option Addr) (cap cap':Nat) (rs:List F2) (w:World) (hl:rs.length<=1048576) (hat:FilesAt w a rs) (hat':FilesAt w a' rs):
 Calls prog 25 #[.slice a rs.length cap,.slice a' rs.length cap'] w fun e w'=>e=.returned (.bool true)/\Below w.heap.size w w':=by
 obtain ⟨b,off,hc⟩:=files_some hat
 have HC:Hid (rs=[]\/(a=some ⟨b,off,none⟩/\b<w.heap.size/\∀ i,i<rs.length->w.cell? ⟨b,off+i*2,none⟩=some (.string (rs.getD i f2z).nm)/\w.cell? ⟨b,off+i*2+1,none⟩=some (.string (rs.getD i f2z).tx))):=hc
 clear hc hat
 obtain ⟨b',off',hc'⟩:=files_some hat'
 have HC':Hid (rs=[]\/(a'=some ⟨b',off',none⟩/\b'<w.heap.size/\∀ i,i<rs.length->w.cell? ⟨b',off'+i*2,none⟩=some (.string (rs.getD i f2z).nm)/\w.cell? ⟨b',off'+i*2+1,none⟩=some (.string (rs.getD i f2z).tx))):=hc'
 clear hc' hat'
 go_enter func25,ntmps25
 go_wp2_with fail
 go_loopw [5] (fun i wr=>∃ (k:Nat),k<=rs.length/\i=.int .i64 k/\Below w.heap.size w wr) (fun i _=>rs.length - (intOf i).toNat)
 case atStart=>exact ⟨0,Nat.zero_le _,rfl,Below.refl _ _⟩
 obtain ⟨k,hk,rfl,hb⟩:=hrel
 by_cases hlt:k<rs.length
 rotate_left
 · go_wp2
   go_ret
   exact ⟨rfl,hb⟩
 rcases HC.out with hss | ⟨ha,hbw,hcell⟩
 · rw [hss] at hlt;exact absurd hlt (Nat.not_lt_zero _)
 rcases HC'.out with hss | ⟨ha',hbw',hcell'⟩
 · rw [hss] at hlt;exact absurd hlt (Nat.not_lt_zero _)
 subst ha
 subst ha'
 have g0:=(hb.cell (p:=⟨b,off+k*2,none⟩) hbw).trans (hcell k hlt).1
 have g1:=(hb.cell (p:=⟨b,off+k*2+1,none⟩) hbw).trans (hcell k hlt).2
 have g0':=(hb.cell (p:=⟨b',off'+k*2,none⟩) hbw').trans (hcell' k hlt).1
 have g1':=(hb.cell (p:=⟨b',off'+k*2+1,none⟩) hbw').trans (hcell' k hlt).2
 generalize rs.getD k f2z=x at*
 clear hcell hcell'
 go_wp2_with fail
 go_region_with (go_at_call 52;refine (c52 x _).mono ?_;rintro e w1 ⟨rfl,hb1⟩)
 all_goals go_wp2
 all_goals go_roundw
 all_goals first
  | exact ⟨k+1,by omega,by go_num,(hb.drew).trans (hb1.mono hb.size)⟩
  | (simp [intOf];omega)
set_option linter.unusedSimpArgs false
def fileOk (x:F2):Bool:=nameOk x.nm.data.toList&&decide ((x.tx.size:Int)<=300)
theorem c31 (x:F2) (w:World) (hs:x.le 1048700):
 Calls prog 31 #[.agg #[.string x.nm,.string x.tx]] w fun e w'=>e=.returned (.bool (fileOk x))/\Below w.heap.size w w':=by
 have HF:Hid (fileOk x=(nameOk x.nm.data.toList&&decide ((x.tx.size:Int)<=300))):=rfl
 obtain ⟨h1,h2⟩:=hs
 go_enter func31,ntmps31
 go_wp2_with fail
 refine (c15 _ _ h1).mono ?_
 rintro e w1 ⟨rfl,rfl⟩
 cases hn:nameOk x.nm.data.toList
 all_goals
  rw [hn] at HF
  go_wp2
  all_goals go_ret
  all_goals exact ⟨ret_bool (by rw [HF.out];simp),(Below.refl _ _).alloc (Nat.le_refl _) _⟩
theorem c39 (x:F2) (w:World) (hs:x.le 1048700):
 Calls prog 39 #[.agg #[.string x.nm,.string x.tx]] w fun e w'=>e=.returned (.bool (fileOk x))/\Below w.heap.size w w':=by
 have HF:Hid (fileOk x=(nameOk x.nm.data.toList&&decide ((x.tx.size:Int)<=300))):=rfl
 obtain ⟨h1,h2⟩:=hs
 go_enter func39,ntmps39
 go_wp2_with fail
 refine (c20 _ _ h1).mono ?_
 rintro e w1 ⟨rfl,rfl⟩
 cases hn:nameOk x.nm.data.toList
 all_goals
  rw [hn] at HF
  go_wp2
  all_goals go_ret
  all_goals exact ⟨ret_bool (by rw [HF.out];simp),(Below.refl _ _).alloc (Nat.le_refl _) _⟩
theorem c31v {x:F2} {v:Bool} (hv:fileOk x=v) (w:World) (hs:x.le 1048700):
 Calls prog 31 #[.agg #[.string x.nm,.string x.tx]] w fun e w'=>e=.returned (.bool v)/\Below w.heap.size w w':=hv▸c31 x w hs
theorem c39v {x:F2} {v:Bool} (hv:fileOk x=v) (w:World) (hs:x.le 1048700):
 Calls prog 39 #[.agg #[.string x.nm,.string x.tx]] w fun e w'=>e=.returned (.bool v)/\Below w.heap.size w w':=hv▸c39 x w hs
def stepOk (fs:List F2) (k:Nat):Bool:=fileOk (fs.getD k f2z)&&(decide (k=0) || Op.bytesLess (fs.getD (k - 1) f2z).nm.toList (fs.getD k f2z).nm.toList)
def treeOk (fs:List F2):Prop:=fs.length<=40/\∀ k,k<fs.length->stepOk fs k=true
theorem c14 (a:Option Addr) (cap:Nat) (fs:List F2) (w:World) (hl:fs.length<=1048576) (hs:∀ i,(fs.getD i f2z).le 1048576) (hat:FilesAt w a fs):
 Calls prog 14 #[.agg #[.slice a fs.length cap]] w fun e w'=>(∃ b:Bool,e=.returned (.bool b)/\(b=true↔treeOk fs))/\Below w.heap.size w w':=by
 obtain ⟨b,off,hc⟩:=files_some hat
 have HC:Hid (fs=[]\/(a=some ⟨b,off,none⟩/\b<w.heap.size/\∀ i,i<fs.length->w.cell? ⟨b,off+i*2,none⟩=some (.string (fs.getD i f2z).nm)/\w.cell? ⟨b,off+i*2+1,none⟩=some (.string (fs.getD i f2z).tx))):=hc
 clear hc hat
 by_cases hbig:40<fs.length
 · go_enter func14,ntmps14
   go_wp2
   go_ret
   exact ⟨⟨false,rfl,by simp [treeOk];omega⟩,(Below.refl _ _).alloc (Nat.le_refl _) _⟩
 go_enter func14,ntmps14
 go_wp2_with fail
 go_loopw [3] (fun i wr=>∃ k:Nat,k<=fs.length/\i=.int .i64 k/\Below w.heap.size w wr/\wr.cell? ⟨w.heap.size,0,none⟩=some (.slice a fs.length cap)/\w.heap.size+1<=wr.heap.size/\Hid (∀ j,j<k->stepOk fs j=true)) (fun i _=>fs.length - (intOf i).toNat)
 case atStart=>exact ⟨0,Nat.zero_le _,rfl,(Below.refl _ _).alloc (Nat.le_refl _) _,by simp,by simp,fun j h=>absurd h (Nat.not_lt_zero _)⟩
 obtain ⟨k,hk,rfl,hb,t0,hz,hdone⟩:=hrel
 by_cases hlt:k<fs.length
 rotate_left
 · have hd':Hid (treeOk fs):=⟨by omega,fun j hj=>hdone.out j (by omega)⟩
   go_wp2
   go_ret
   exact ⟨⟨true,rfl,by simp only [true_iff];exact hd'.out⟩,hb⟩
 rcases HC.out with hss | ⟨ha,hbw,hcell⟩
 · rw [hss] at hlt;exact absurd hlt (Nat.not_lt_zero _)
 subst ha
 have HB:Hid (Below w.heap.size w wr):=hb
 have g0:=(hb.cell (p:=⟨b,off+k*2,none⟩) hbw).trans (hcell k hlt).1
 have g1:=(hb.cell (p:=⟨b,off+k*2+1,none⟩) hbw).trans (hcell k hlt).2
 have hbr:b<wr.heap.size:=Nat.lt_of_lt_of_le hbw hb.size
 have hsx:Hid ((fs.getD k f2z).le 1048700):=⟨Nat.le_trans (hs k).1 (by omega),Nat.le_trans (hs k).2 (by omega)⟩
 rcases Nat.eq_zero_or_pos k with h0 | h0
 · subst h0
   have HS:Hid (stepOk fs 0=fileOk (fs.getD 0 f2z)):=by simp [stepOk,Hid]
   simp only [Nat.zero_mul,Nat.add_zero] at g0 g1
   generalize fs.getD 0 f2z=x at*
   clear hcell hb
   cases hx:fileOk x
   · go_wp2_with fail
     refine wp_region_held_drew (S:=(fun u=>u.cell? ⟨w.heap.size,0,none⟩=some (.slice (some ⟨b,off,none⟩) fs.length cap)/\u.cell? ⟨b,off,none⟩=some (.string x.nm)/\u.cell? ⟨b,off+1,none⟩=some (.string x.tx))) (by kernel_rfl) ?_ (fun hH=>?_)
     · ((try dsimp only);go_keep)
     refine tq 0 hH ?_
     refine tq 1 hH ?_
     try simp only [qq]
     refine tq 2 hH ?_
     refine tq 3 hH ?_
     try simp only [qq]
     refine tq 4 hH ?_
     try simp only [qq]
     refine rq 5 (fun K hK=>?_)
     go_simp
     refine (c31v hx _ hsx.out).mono ?_
     rintro e w1 ⟨rfl,hb1⟩
     have HB1:Hid (Below wr.heap.size wr w1):=((Below.refl _ _).drew).trans hb1
     have p0:=(HB1.out.cell (p:=⟨w.heap.size,0,none⟩) (by show w.heap.size<wr.heap.size;omega)).trans t0
     have p1:=(HB1.out.cell (p:=⟨b,off,none⟩) hbr).trans g0
     have p2:=(HB1.out.cell (p:=⟨b,off+1,none⟩) hbr).trans g1
     go_wp2_with fail
     clear hH
     refine hK.out _ _ ?_ (fun hH=>?_)
     · ((try dsimp only);go_keep)
     clear hK K
     refine tq 6 hH ?_
     refine tq 7 hH ?_
     try simp only [qq]
     refine uq 8 hH ?_
     refine uq 9 hH ?_
     try simp only [qq]
     refine uq 10 hH ?_
     refine uq 11 hH ?_
     try simp only [qq]
     refine uq 12 hH ?_
     refine uq 13 hH ?_
     try simp only [qq]
     refine uq 14 hH ?_
     refine uq 15 hH ?_
     try simp only [qq]
     refine uq 16 hH ?_
     refine uq 17 hH ?_
     try simp only [qq]
     refine uq 18 hH ?_
     refine uq 19 hH ?_
     try simp only [qq]
     refine uq 20 hH ?_
     refine uq 21 hH ?_
     try simp only [qq]
     refine uq 22 hH ?_
     refine uq 23 hH ?_
     try simp only [qq]
     refine uq 24 hH ?_
     refine uq 25 hH ?_
     try simp only [qq]
     refine tq 26 hH ?_
     try simp only [qq]
     refine wpAnyH_done (by kernel_rfl) ?_ _
     have hB1:Below w.heap.size w w1:=HB.out.trans (HB1.out.mono HB.out.size)
     rw [hx] at HS
     clear hH
     go_wp2
     go_ret
     exact ⟨⟨false,rfl,by simp only [Bool.false_eq_true,false_iff];intro h;have:=h.2 _ hlt;rw [HS.out] at this;cases this⟩,hB1⟩
   go_wp2_with fail
   refine wp_region_held_drew (S:=(fun u=>u.cell? ⟨w.heap.size,0,none⟩=some (.slice (some ⟨b,off,none⟩) fs.length cap)/\u.cell? ⟨b,off,none⟩=some (.string x.nm)/\u.cell? ⟨b,off+1,none⟩=some (.string x.tx))) (by kernel_rfl) ?_ (fun hH=>?_)
   · ((try dsimp only);go_keep)
   refine tq 0 hH ?_
   refine tq 1 hH ?_
   try simp only [qq]
   refine tq 2 hH ?_
   refine tq 3 hH ?_
   try simp only [qq]
   refine tq 4 hH ?_
   try simp only [qq]
   refine rq 5 (fun K hK=>?_)
   go_simp
   refine (c31v hx _ hsx.out).mono ?_
   rintro e w1 ⟨rfl,hb1⟩
   have HB1:Hid (Below wr.heap.size wr w1):=((Below.refl _ _).drew).trans hb1
   have p0:=(HB1.out.cell (p:=⟨w.heap.size,0,none⟩) (by show w.heap.size<wr.heap.size;omega)).trans t0
   have p1:=(HB1.out.cell (p:=⟨b,off,none⟩) hbr).trans g0
   have p2:=(HB1.out.cell (p:=⟨b,off+1,none⟩) hbr).trans g1
   go_wp2_with fail
   clear hH
   refine hK.out _ _ ?_ (fun hH=>?_)
   · ((try dsimp only);go_keep)
   clear hK K
   refine tq 6 hH ?_
   refine tq 7 hH ?_
   try simp only [qq]
   refine tq 8 hH ?_
   refine tq 9 hH ?_
   try simp only [qq]
   refine tq 10 hH ?_
   refine uq 11 hH ?_
   try simp only [qq]
   refine uq 12 hH ?_
   refine uq 13 hH ?_
   try simp only [qq]
   refine uq 14 hH ?_
   refine uq 15 hH ?_
   try simp only [qq]
   refine uq 16 hH ?_
   refine uq 17 hH ?_
   try simp only [qq]
   refine uq 18 hH ?_
   refine uq 19 hH ?_
   try simp only [qq]
   refine uq 20 hH ?_
   refine uq 21 hH ?_
   try simp only [qq]
   refine uq 22 hH ?_
   refine uq 23 hH ?_
   try simp only [qq]
   refine uq 24 hH ?_
   refine tq 25 hH ?_
   try simp only [qq]
   refine tq 26 hH ?_
   try simp only [qq]
   refine wpAnyH_done (by kernel_rfl) ?_ _
   have hB1:Below w.heap.size w w1:=HB.out.trans (HB1.out.mono HB.out.size)
   have hz1:w.heap.size+1<=w1.heap.size:=Nat.le_trans hz HB1.out.size
   rw [hx] at HS
   have hd':Hid (∀ j,j<0+1->stepOk fs j=true):=fun j hj=>by
    rcases Nat.lt_or_ge j 0 with h | h
    · exact hdone.out j h
    obtain rfl:j=0:=by omega
    exact HS.out
   clear hH
   go_wp2
   go_roundw
   case rel=>exact ⟨0+1,by omega,by go_num,hB1,p0,hz1,hd'⟩
   case measure=>simp [intOf];omega
 obtain ⟨q,hq⟩:∃ q,q+1=k:=⟨k - 1,by omega⟩
 have g2:=(hb.cell (p:=⟨b,off+q*2,none⟩) hbw).trans (hcell q (by omega)).1
 have HS:Hid (stepOk fs k=(fileOk (fs.getD k f2z)&&Op.bytesLess (fs.getD q f2z).nm.toList (fs.getD k f2z).nm.toList)):=by
  have e1:decide (k=0)=false:=decide_eq_false (by omega)
  have e2:k - 1=q:=by omega
  unfold stepOk;rw [e1,e2];rfl
 have hm0:(0:Int)<(k:Int):=by omega
 have hm1:decide ((0:Int)<(k:Int))=true:=decide_eq_true hm0
 generalize fs.getD k f2z=x at*
 generalize fs.getD q f2z=y at*
 have hwr:IntKind.i64.wrap ((k:Int) - 1)=(q:Int):=by rw [show (k:Int) - 1=(q:Int) by omega];exact wrap_nat q (by omega)
 have hql:(q:Int)<(fs.length:Int):=by omega
 clear hq
 clear hcell hb
 cases hx:fileOk x
 · cases hy:Op.bytesLess y.nm.toList x.nm.toList
   · go_wp2_with fail
     refine wp_region_held_drew (S:=(fun u=>u.cell? ⟨w.heap.size,0,none⟩=some (.slice (some ⟨b,off,none⟩) fs.length cap)/\u.cell? ⟨b,off+k*2,none⟩=some (.string x.nm)/\u.cell? ⟨b,off+k*2+1,none⟩=some (.string x.tx)/\u.cell? ⟨b,off+q*2,none⟩=some (.string y.nm))) (by kernel_rfl) ?_ (fun hH=>?_)
     · ((try dsimp only);go_keep)
     refine tq 0 hH ?_
     refine tq 1 hH ?_
     try simp only [qq]
     refine tq 2 hH ?_
     refine tq 3 hH ?_
     try simp only [qq]
     refine tq 4 hH ?_
     try simp only [qq]
     refine rq 5 (fun K hK=>?_)
     go_simp
     refine (c31v hx _ hsx.out).mono ?_
     rintro e w1 ⟨rfl,hb1⟩
     have HB1:Hid (Below wr.heap.size wr w1):=((Below.refl _ _).drew).trans hb1
     have p0:=(HB1.out.cell (p:=⟨w.heap.size,0,none⟩) (by show w.heap.size<wr.heap.size;omega)).trans t0
     have p1:=(HB1.out.cell (p:=⟨b,off+k*2,none⟩) hbr).trans g0
     have p2:=(HB1.out.cell (p:=⟨b,off+k*2+1,none⟩) hbr).trans g1
     have p3:=(HB1.out.cell (p:=⟨b,off+q*2,none⟩) hbr).trans g2
     go_wp2_with fail
     clear hH
     refine hK.out _ _ ?_ (fun hH=>?_)
     · ((try dsimp only);go_keep)
     clear hK K
     refine tq 6 hH ?_
     refine tq 7 hH ?_
     try simp only [qq]
     refine uq 8 hH ?_
     refine uq 9 hH ?_
     try simp only [qq]
     refine uq 10 hH ?_
     refine uq 11 hH ?_
     try simp only [qq]
     refine uq 12 hH ?_
     refine uq 13 hH ?_
     try simp only [qq]
     refine uq 14 hH ?_
     refine uq 15 hH ?_
     try simp only [qq]
     refine uq 16 hH ?_
     refine uq 17 hH ?_
     try simp only [qq]
     refine uq 18 hH ?_
     refine uq 19 hH ?_
     try simp only [qq]
     refine uq 20 hH ?_
     refine uq 21 hH ?_
     try simp only [qq]
     refine uq 22 hH ?_
     refine uq 23 hH ?_
     try simp only [qq]
     refine uq 24 hH ?_
     refine uq 25 hH ?_
     try simp only [qq]
     refine tq 26 hH ?_
     try simp only [qq]
     refine wpAnyH_done (by kernel_rfl) ?_ _
     have hB1:Below w.heap.size w w1:=HB.out.trans (HB1.out.mono HB.out.size)
     rw [hx,hy] at HS
     clear hH
     go_wp2
     go_ret
     exact ⟨⟨false,rfl,by simp only [Bool.false_eq_true,false_iff];intro h;have:=h.2 _ hlt;rw [HS.out] at this;cases this⟩,hB1⟩
   go_wp2_with fail
   refine wp_region_held_drew (S:=(fun u=>u.cell? ⟨w.heap.size,0,none⟩=some (.slice (some ⟨b,off,none⟩) fs.length cap)/\u.cell? ⟨b,off+k*2,none⟩=some (.string x.nm)/\u.cell? ⟨b,off+k*2+1,none⟩=some (.string x.tx)/\u.cell? ⟨b,off+q*2,none⟩=some (.string y.nm))) (by kernel_rfl) ?_ (fun hH=>?_)
   · ((try dsimp only);go_keep)
   refine tq 0 hH ?_
   refine tq 1 hH ?_
   try simp only [qq]
   refine tq 2 hH ?_
   refine tq 3 hH ?_
   try simp only [qq]
   refine tq 4 hH ?_
   try simp only [qq]
   refine rq 5 (fun K hK=>?_)
   go_simp
   refine (c31v hx _ hsx.out).mono ?_
   rintro e w1 ⟨rfl,hb1⟩
   have HB1:Hid (Below wr.heap.size wr w1):=((Below.refl _ _).drew).trans hb1
   have p0:=(HB1.out.cell (p:=⟨w.heap.size,0,none⟩) (by show w.heap.size<wr.heap.size;omega)).trans t0
   have p1:=(HB1.out.cell (p:=⟨b,off+k*2,none⟩) hbr).trans g0
   have p2:=(HB1.out.cell (p:=⟨b,off+k*2+1,none⟩) hbr).trans g1
   have p3:=(HB1.out.cell (p:=⟨b,off+q*2,none⟩) hbr).trans g2
   go_wp2_with fail
   clear hH
   refine hK.out _ _ ?_ (fun hH=>?_)
   · ((try dsimp only);go_keep)
   clear hK K
   refine tq 6 hH ?_
   refine tq 7 hH ?_
   try simp only [qq]
   refine uq 8 hH ?_
   refine uq 9 hH ?_
   try simp only [qq]
   refine uq 10 hH ?_
   refine uq 11 hH ?_
   try simp only [qq]
   refine uq 12 hH ?_
   refine uq 13 hH ?_
   try simp only [qq]
   refine uq 14 hH ?_
   refine uq 15 hH ?_
   try simp only [qq]
   refine uq 16 hH ?_
   refine uq 17 hH ?_
   try simp only [qq]
   refine uq 18 hH ?_
   refine uq 19 hH ?_
   try simp only [qq]
   refine uq 20 hH ?_
   refine uq 21 hH ?_
   try simp only [qq]
   refine uq 22 hH ?_
   refine uq 23 hH ?_
   try simp only [qq]
   refine uq 24 hH ?_
   refine uq 25 hH ?_
   try simp only [qq]
   refine tq 26 hH ?_
   try simp only [qq]
   refine wpAnyH_done (by kernel_rfl) ?_ _
   have hB1:Below w.heap.size w w1:=HB.out.trans (HB1.out.mono HB.out.size)
   rw [hx,hy] at HS
   clear hH
   go_wp2
   go_ret
   exact ⟨⟨false,rfl,by simp only [Bool.false_eq_true,false_iff];intro h;have:=h.2 _ hlt;rw [HS.out] at this;cases this⟩,hB1⟩
 cases hy:Op.bytesLess y.nm.toList x.nm.toList
 · go_wp2_with fail
   refine wp_region_held_drew (S:=(fun u=>u.cell? ⟨w.heap.size,0,none⟩=some (.slice (some ⟨b,off,none⟩) fs.length cap)/\u.cell? ⟨b,off+k*2,none⟩=some (.string x.nm)/\u.cell? ⟨b,off+k*2+1,none⟩=some (.string x.tx)/\u.cell? ⟨b,off+q*2,none⟩=some (.string y.nm))) (by kernel_rfl) ?_ (fun hH=>?_)
   · ((try dsimp only);go_keep)
   refine tq 0 hH ?_
   refine tq 1 hH ?_
   try simp only [qq]
   refine tq 2 hH ?_
   refine tq 3 hH ?_
   try simp only [qq]
   refine tq 4 hH ?_
   try simp only [qq]
   refine rq 5 (fun K hK=>?_)
   go_simp
   refine (c31v hx _ hsx.out).mono ?_
   rintro e w1 ⟨rfl,hb1⟩
   have HB1:Hid (Below wr.heap.size wr w1):=((Below.refl _ _).drew).trans hb1
   have p0:=(HB1.out.cell (p:=⟨w.heap.size,0,none⟩) (by show w.heap.size<wr.heap.size;omega)).trans t0
   have p1:=(HB1.out.cell (p:=⟨b,off+k*2,none⟩) hbr).trans g0
   have p2:=(HB1.out.cell (p:=⟨b,off+k*2+1,none⟩) hbr).trans g1
   have p3:=(HB1.out.cell (p:=⟨b,off+q*2,none⟩) hbr).trans g2
   go_wp2_with fail
   clear hH
   refine hK.out _ _ ?_ (fun hH=>?_)
   · ((try dsimp only);go_keep)
   clear hK K
   refine tq 6 hH ?_
   refine tq 7 hH ?_
   try simp only [qq]
   refine tq 8 hH ?_
   refine tq 9 hH ?_
   try simp only [qq]
   refine tq 10 hH ?_
   refine tq 11 hH ?_
   try simp only [qq]
   refine tq 12 hH ?_
   refine tq 13 hH ?_
   try simp only [qq]
   refine tq 14 hH ?_
   refine tq 15 hH ?_
   try simp only [qq]
   refine tq 16 hH ?_
   refine tq 17 hH ?_
   try simp only [qq]
   refine tq 18 hH ?_
   refine tq 19 hH ?_
   try simp only [qq]
   refine tq 20 hH ?_
   refine tq 21 hH ?_
   try simp only [qq]
   refine tq 22 hH ?_
   refine tq 23 hH ?_
   try simp only [qq]
   refine tq 24 hH ?_
   refine tq 25 hH ?_
   try simp only [qq]
   refine tq 26 hH ?_
   try simp only [qq]
   refine wpAnyH_done (by kernel_rfl) ?_ _
   have hB1:Below w.heap.size w w1:=HB.out.trans (HB1.out.mono HB.out.size)
   rw [hx,hy] at HS
   clear hH
   go_wp2
   go_ret
   exact ⟨⟨false,rfl,by simp only [Bool.false_eq_true,false_iff];intro h;have:=h.2 _ hlt;rw [HS.out] at this;cases this⟩,hB1⟩
 go_wp2_with fail
 refine wp_region_held_drew (S:=(fun u=>u.cell? ⟨w.heap.size,0,none⟩=some (.slice (some ⟨b,off,none⟩) fs.length cap)/\u.cell? ⟨b,off+k*2,none⟩=some (.string x.nm)/\u.cell? ⟨b,off+k*2+1,none⟩=some (.string x.tx)/\u.cell? ⟨b,off+q*2,none⟩=some (.string y.nm))) (by kernel_rfl) ?_ (fun hH=>?_)
 · ((try dsimp only);go_keep)
 refine tq 0 hH ?_
 refine tq 1 hH ?_
 try simp only [qq]
 refine tq 2 hH ?_
 refine tq 3 hH ?_
 try simp only [qq]
 refine tq 4 hH ?_
 try simp only [qq]
 refine rq 5 (fun K hK=>?_)
 go_simp
 refine (c31v hx _ hsx.out).mono ?_
 rintro e w1 ⟨rfl,hb1⟩
 have HB1:Hid (Below wr.heap.size wr w1):=((Below.refl _ _).drew).trans hb1
 have p0:=(HB1.out.cell (p:=⟨w.heap.size,0,none⟩) (by show w.heap.size<wr.heap.size;omega)).trans t0
 have p1:=(HB1.out.cell (p:=⟨b,off+k*2,none⟩) hbr).trans g0
 have p2:=(HB1.out.cell (p:=⟨b,off+k*2+1,none⟩) hbr).trans g1
 have p3:=(HB1.out.cell (p:=⟨b,off+q*2,none⟩) hbr).trans g2
 go_wp2_with fail
 clear hH
 refine hK.out _ _ ?_ (fun hH=>?_)
 · ((try dsimp only);go_keep)
 clear hK K
 refine tq 6 hH ?_
 refine tq 7 hH ?_
 try simp only [qq]
 refine tq 8 hH ?_
 refine tq 9 hH ?_
 try simp only [qq]
 refine tq 10 hH ?_
 refine tq 11 hH ?_
 try simp only [qq]
 refine tq 12 hH ?_
 refine tq 13 hH ?_
 try simp only [qq]
 refine tq 14 hH ?_
 refine tq 15 hH ?_
 try simp only [qq]
 refine tq 16 hH ?_
 refine tq 17 hH ?_
 try simp only [qq]
 refine tq 18 hH ?_
 refine tq 19 hH ?_
 try simp only [qq]
 refine tq 20 hH ?_
 refine tq 21 hH ?_
 try simp only [qq]
 refine tq 22 hH ?_
 refine tq 23 hH ?_
 try simp only [qq]
 refine tq 24 hH ?_
 refine tq 25 hH ?_
 try simp only [qq]
 refine tq 26 hH ?_
 try simp only [qq]
 refine wpAnyH_done (by kernel_rfl) ?_ _
 have hB1:Below w.heap.size w w1:=HB.out.trans (HB1.out.mono HB.out.size)
 have hz1:w.heap.size+1<=w1.heap.size:=Nat.le_trans hz HB1.out.size
 rw [hx,hy] at HS
 have hd':Hid (∀ j,j<k+1->stepOk fs j=true):=fun j hj=>by
  rcases Nat.lt_or_ge j k with h | h
  · exact hdone.out j h
  obtain rfl:j=k:=by omega
  exact HS.out
 clear hH
 go_wp2
 go_roundw
 case rel=>exact ⟨k+1,by omega,by go_num,hB1,p0,hz1,hd'⟩
 case measure=>simp [intOf];omega
set_option linter.unusedSimpArgs false
theorem c19 (a:Option Addr) (cap:Nat) (fs:List F2) (w:World) (hl:fs.length<=1048576) (hs:∀ i,(fs.getD i f2z).le 1048576) (hat:FilesAt w a fs):
 Calls prog 19 #[.agg #[.slice a fs.length cap]] w fun e w'=>(∃ b:Bool,e=.returned (.bool b)/\(b=true↔treeOk fs))/\Below w.heap.size w w':=by
 obtain ⟨b,off,hc⟩:=files_some hat
 have HC:Hid (fs=[]\/(a=some ⟨b,off,none⟩/\b<w.heap.size/\∀ i,i<fs.length->w.cell? ⟨b,off+i*2,none⟩=some (.string (fs.getD i f2z).nm)/\w.cell? ⟨b,off+i*2+1,none⟩=some (.string (fs.getD i f2z).tx))):=hc
 clear hc hat
 by_cases hbig:40<fs.length
 · go_enter func19,ntmps19
   go_wp2
   go_ret
   exact ⟨⟨false,rfl,by simp [treeOk];omega⟩,(Below.refl _ _).alloc (Nat.le_refl _) _⟩
 go_enter func19,ntmps19
 go_wp2_with fail
 go_loopw [12] (fun i wr=>∃ k:Nat,k<=fs.length/\i=.int .i64 k/\Below w.heap.size w wr/\wr.cell? ⟨w.heap.size,0,none⟩=some (.slice a fs.length cap)/\w.heap.size+1<=wr.heap.size/\Hid (∀ j,j<k->stepOk fs j=true)) (fun i _=>fs.length - (intOf i).toNat)
 case atStart=>exact ⟨0,Nat.zero_le _,rfl,(Below.refl _ _).alloc (Nat.le_refl _) _,by simp,by simp,fun j h=>absurd h (Nat.not_lt_zero _)⟩
 obtain ⟨k,hk,rfl,hb,t0,hz,hdone⟩:=hrel
 by_cases hlt:k<fs.length
 rotate_left
 · have hd':Hid (treeOk fs):=⟨by omega,fun j hj=>hdone.out j (by omega)⟩
   go_wp2
   go_ret
   exact ⟨⟨true,rfl,by simp only [true_iff];exact hd'.out⟩,hb⟩
 rcases HC.out with hss | ⟨ha,hbw,hcell⟩
 · rw [hss] at hlt;exact absurd hlt (Nat.not_lt_zero _)
 subst ha
 have HB:Hid (Below w.heap.size w wr):=hb
 have g0:=(hb.cell (p:=⟨b,off+k*2,none⟩) hbw).trans (hcell k hlt).1
 have g1:=(hb.cell (p:=⟨b,off+k*2+1,none⟩) hbw).trans (hcell k hlt).2
 have hbr:b<wr.heap.size:=Nat.lt_of_lt_of_le hbw hb.size
 have hsx:Hid ((fs.getD k f2z).le 1048700):=⟨Nat.le_trans (hs k).1 (by omega),Nat.le_trans (hs k).2 (by omega)⟩
 rcases Nat.eq_zero_or_pos k with h0 | h0
 · subst h0
   have HS:Hid (stepOk fs 0=fileOk (fs.getD 0 f2z)):=by simp [stepOk,Hid]
   simp only [Nat.zero_mul,Nat.add_zero] at g0 g1
   generalize fs.getD 0 f2z=x at*
   clear hcell hb
   cases hx:fileOk x
   · go_wp2_with fail
     have HBW:Hid (Below wr.heap.size wr (wr.alloc (.cells #[.string x.nm,.string x.tx] 64))):=(Below.refl _ _).alloc (Nat.le_refl _) _
     have t1:=(HBW.out.cell (p:=⟨w.heap.size,0,none⟩) (by show w.heap.size<wr.heap.size;omega)).trans t0
     have f0:(wr.alloc (.cells #[.string x.nm,.string x.tx] 64)).cell? ⟨wr.heap.size,0,none⟩=some (.string x.nm):=by simp
     have f1:(wr.alloc (.cells #[.string x.nm,.string x.tx] 64)).cell? ⟨wr.heap.size,1,none⟩=some (.string x.tx):=by simp
     have hFW:wr.heap.size<(wr.alloc (.cells #[.string x.nm,.string x.tx] 64)).heap.size:=by simp
     generalize (wr.alloc (.cells #[.string x.nm,.string x.tx] 64))=W at*
     have hwW:w.heap.size<W.heap.size:=by omega
     have hbW:b<W.heap.size:=by omega
     refine wp_region_held_drew (S:=(fun u=>u.cell? ⟨w.heap.size,0,none⟩=some (.slice (some ⟨b,off,none⟩) fs.length cap)/\u.cell? ⟨wr.heap.size,0,none⟩=some (.string x.nm)/\u.cell? ⟨wr.heap.size,1,none⟩=some (.string x.tx))) (by kernel_rfl) ?_ (fun hH=>?_)
     · ((try dsimp only);go_keep)
     refine tq 0 hH ?_
     try simp only [qq]
     refine rq 1 (fun K hK=>?_)
     go_simp
     refine (c39v hx _ hsx.out).mono ?_
     rintro e w1 ⟨rfl,hb1⟩
     have HB1:Hid (Below W.heap.size W w1):=((Below.refl _ _).drew).trans hb1
     have p0:=(HB1.out.cell (p:=⟨w.heap.size,0,none⟩) hwW).trans t1
     have p1:=(HB1.out.cell (p:=⟨wr.heap.size,0,none⟩) hFW).trans f0
     have p2:=(HB1.out.cell (p:=⟨wr.heap.size,1,none⟩) hFW).trans f1
     go_wp2_with fail
     clear hH
     refine hK.out _ _ ?_ (fun hH=>?_)
     · ((try dsimp only);go_keep)
     clear hK K
     refine tq 2 hH ?_
     refine tq 3 hH ?_
     try simp only [qq]
     refine uq 4 hH ?_
     refine uq 5 hH ?_
     try simp only [qq]
     refine uq 6 hH ?_
     refine uq 7 hH ?_
     try simp only [qq]
     refine uq 8 hH ?_
     refine uq 9 hH ?_
     try simp only [qq]
     refine uq 10 hH ?_
     refine uq 11 hH ?_
     try simp only [qq]
     refine uq 12 hH ?_
     refine uq 13 hH ?_
     try simp only [qq]
     refine uq 14 hH ?_
     refine uq 15 hH ?_
     try simp only [qq]
     refine uq 16 hH ?_
     refine uq 17 hH ?_
     try simp only [qq]
     refine tq 18 hH ?_
     try simp only [qq]
     refine wpAnyH_done (by kernel_rfl) ?_ _
     have hB1:Below w.heap.size w w1:=HB.out.trans ((HBW.out.trans (HB1.out.mono (by omega))).mono HB.out.size)
     rw [hx] at HS
     clear hH
     go_wp2
     go_ret
     exact ⟨⟨false,rfl,by simp only [Bool.false_eq_true,false_iff];intro h;have:=h.2 _ hlt;rw [HS.out] at this;cases this⟩,hB1⟩
   go_wp2_with fail
   have HBW:Hid (Below wr.heap.size wr (wr.alloc (.cells #[.string x.nm,.string x.tx] 64))):=(Below.refl _ _).alloc (Nat.le_refl _) _
   have t1:=(HBW.out.cell (p:=⟨w.heap.size,0,none⟩) (by show w.heap.size<wr.heap.size;omega)).trans t0
   have f0:(wr.alloc (.cells #[.string x.nm,.string x.tx] 64)).cell? ⟨wr.heap.size,0,none⟩=some (.string x.nm):=by simp
   have f1:(wr.alloc (.cells #[.string x.nm,.string x.tx] 64)).cell? ⟨wr.heap.size,1,none⟩=some (.string x.tx):=by simp
   have hFW:wr.heap.size<(wr.alloc (.cells #[.string x.nm,.string x.tx] 64)).heap.size:=by simp
   generalize (wr.alloc (.cells #[.string x.nm,.string x.tx] 64))=W at*
   have hwW:w.heap.size<W.heap.size:=by omega
   have hbW:b<W.heap.size:=by omega
   refine wp_region_held_drew (S:=(fun u=>u.cell? ⟨w.heap.size,0,none⟩=some (.slice (some ⟨b,off,none⟩) fs.length cap)/\u.cell? ⟨wr.heap.size,0,none⟩=some (.string x.nm)/\u.cell? ⟨wr.heap.size,1,none⟩=some (.string x.tx))) (by kernel_rfl) ?_ (fun hH=>?_)
   · ((try dsimp only);go_keep)
   refine tq 0 hH ?_
   try simp only [qq]
   refine rq 1 (fun K hK=>?_)
   go_simp
   refine (c39v hx _ hsx.out).mono ?_
   rintro e w1 ⟨rfl,hb1⟩
   have HB1:Hid (Below W.heap.size W w1):=((Below.refl _ _).drew).trans hb1
   have p0:=(HB1.out.cell (p:=⟨w.heap.size,0,none⟩) hwW).trans t1
   have p1:=(HB1.out.cell (p:=⟨wr.heap.size,0,none⟩) hFW).trans f0
   have p2:=(HB1.out.cell (p:=⟨wr.heap.size,1,none⟩) hFW).trans f1
   go_wp2_with fail
   clear hH
   refine hK.out _ _ ?_ (fun hH=>?_)
   · ((try dsimp only);go_keep)
   clear hK K
   refine tq 2 hH ?_
   refine tq 3 hH ?_
   try simp only [qq]
   refine tq 4 hH ?_
   refine tq 5 hH ?_
   try simp only [qq]
   refine tq 6 hH ?_
   refine uq 7 hH ?_
   try simp only [qq]
   refine uq 8 hH ?_
   refine uq 9 hH ?_
   try simp only [qq]
   refine uq 10 hH ?_
   refine uq 11 hH ?_
   try simp only [qq]
   refine uq 12 hH ?_
   refine uq 13 hH ?_
   try simp only [qq]
   refine uq 14 hH ?_
   refine uq 15 hH ?_
   try simp only [qq]
   refine uq 16 hH ?_
   refine tq 17 hH ?_
   try simp only [qq]
   refine tq 18 hH ?_
   try simp only [qq]
   refine wpAnyH_done (by kernel_rfl) ?_ _
   have hB1:Below w.heap.size w w1:=HB.out.trans ((HBW.out.trans (HB1.out.mono (by omega))).mono HB.out.size)
   have hz1:w.heap.size+1<=w1.heap.size:=by have:=HB1.out.size;omega
   rw [hx] at HS
   have hd':Hid (∀ j,j<0+1->stepOk fs j=true):=fun j hj=>by
    rcases Nat.lt_or_ge j 0 with h | h
    · exact hdone.out j h
    obtain rfl:j=0:=by omega
    exact HS.out
   clear hH
   go_wp2
   go_roundw
   case rel=>exact ⟨0+1,by omega,by go_num,hB1,p0,hz1,hd'⟩
   case measure=>simp [intOf];omega
 obtain ⟨q,hq⟩:∃ q,q+1=k:=⟨k - 1,by omega⟩
 have g2:=(hb.cell (p:=⟨b,off+q*2,none⟩) hbw).trans (hcell q (by omega)).1
 have HS:Hid (stepOk fs k=(fileOk (fs.getD k f2z)&&Op.bytesLess (fs.getD q f2z).nm.toList (fs.getD k f2z).nm.toList)):=by
  have e1:decide (k=0)=false:=decide_eq_false (by omega)
  have e2:k - 1=q:=by omega
  unfold stepOk;rw [e1,e2];rfl
 have hm0:(0:Int)<(k:Int):=by omega
 have hm1:decide ((0:Int)<(k:Int))=true:=decide_eq_true hm0
 generalize fs.getD k f2z=x at*
 generalize fs.getD q f2z=y at*
 have hwr:IntKind.i64.wrap ((k:Int) - 1)=(q:Int):=by rw [show (k:Int) - 1=(q:Int) by omega];exact wrap_nat q (by omega)
 have hql:(q:Int)<(fs.length:Int):=by omega
 clear hq
 clear hcell hb
 cases hx:fileOk x
 · cases hy:Op.bytesLess y.nm.toList x.nm.toList
   · go_wp2_with fail
     have HBW:Hid (Below wr.heap.size wr (wr.alloc (.cells #[.string x.nm,.string x.tx] 64))):=(Below.refl _ _).alloc (Nat.le_refl _) _
     have t1:=(HBW.out.cell (p:=⟨w.heap.size,0,none⟩) (by show w.heap.size<wr.heap.size;omega)).trans t0
     have y1:=(HBW.out.cell (p:=⟨b,off+q*2,none⟩) hbr).trans g2
     have f0:(wr.alloc (.cells #[.string x.nm,.string x.tx] 64)).cell? ⟨wr.heap.size,0,none⟩=some (.string x.nm):=by simp
     have f1:(wr.alloc (.cells #[.string x.nm,.string x.tx] 64)).cell? ⟨wr.heap.size,1,none⟩=some (.string x.tx):=by simp
     have hFW:wr.heap.size<(wr.alloc (.cells #[.string x.nm,.string x.tx] 64)).heap.size:=by simp
     generalize (wr.alloc (.cells #[.string x.nm,.string x.tx] 64))=W at*
     have hwW:w.heap.size<W.heap.size:=by omega
     have hbW:b<W.heap.size:=by omega
     refine wp_region_held_drew (S:=(fun u=>u.cell? ⟨w.heap.size,0,none⟩=some (.slice (some ⟨b,off,none⟩) fs.length cap)/\u.cell? ⟨wr.heap.size,0,none⟩=some (.string x.nm)/\u.cell? ⟨wr.heap.size,1,none⟩=some (.string x.tx)/\u.cell? ⟨b,off+q*2,none⟩=some (.string y.nm))) (by kernel_rfl) ?_ (fun hH=>?_)
     · ((try dsimp only);go_keep)
     refine tq 0 hH ?_
     try simp only [qq]
     refine rq 1 (fun K hK=>?_)
     go_simp
     refine (c39v hx _ hsx.out).mono ?_
     rintro e w1 ⟨rfl,hb1⟩
     have HB1:Hid (Below W.heap.size W w1):=((Below.refl _ _).drew).trans hb1
     have p0:=(HB1.out.cell (p:=⟨w.heap.size,0,none⟩) hwW).trans t1
     have p1:=(HB1.out.cell (p:=⟨wr.heap.size,0,none⟩) hFW).trans f0
     have p2:=(HB1.out.cell (p:=⟨wr.heap.size,1,none⟩) hFW).trans f1
     have p3:=(HB1.out.cell (p:=⟨b,off+q*2,none⟩) hbW).trans y1
     go_wp2_with fail
     clear hH
     refine hK.out _ _ ?_ (fun hH=>?_)
     · ((try dsimp only);go_keep)
     clear hK K
     refine tq 2 hH ?_
     refine tq 3 hH ?_
     try simp only [qq]
     refine uq 4 hH ?_
     refine uq 5 hH ?_
     try simp only [qq]
     refine uq 6 hH ?_
     refine uq 7 hH ?_
     try simp only [qq]
     refine uq 8 hH ?_
     refine uq 9 hH ?_
     try simp only [qq]
     refine uq 10 hH ?_
     refine uq 11 hH ?_
     try simp only [qq]
     refine uq 12 hH ?_
     refine uq 13 hH ?_
     try simp only [qq]
     refine uq 14 hH ?_
     refine uq 15 hH ?_
     try simp only [qq]
     refine uq 16 hH ?_
     refine uq 17 hH ?_
     try simp only [qq]
     refine tq 18 hH ?_
     try simp only [qq]
     refine wpAnyH_done (by kernel_rfl) ?_ _
     have hB1:Below w.heap.size w w1:=HB.out.trans ((HBW.out.trans (HB1.out.mono (by omega))).mono HB.out.size)
     rw [hx,hy] at HS
     clear hH
     go_wp2
     go_ret
     exact ⟨⟨false,rfl,by simp only [Bool.false_eq_true,false_iff];intro h;have:=h.2 _ hlt;rw [HS.out] at this;cases this⟩,hB1⟩
   go_wp2_with fail
   have HBW:Hid (Below wr.heap.size wr (wr.alloc (.cells #[.string x.nm,.string x.tx] 64))):=(Below.refl _ _).alloc (Nat.le_refl _) _
   have t1:=(HBW.out.cell (p:=⟨w.heap.size,0,none⟩) (by show w.heap.size<wr.heap.size;omega)).trans t0
   have y1:=(HBW.out.cell (p:=⟨b,off+q*2,none⟩) hbr).trans g2
   have f0:(wr.alloc (.cells #[.string x.nm,.string x.tx] 64)).cell? ⟨wr.heap.size,0,none⟩=some (.string x.nm):=by simp
   have f1:(wr.alloc (.cells #[.string x.nm,.string x.tx] 64)).cell? ⟨wr.heap.size,1,none⟩=some (.string x.tx):=by simp
   have hFW:wr.heap.size<(wr.alloc (.cells #[.string x.nm,.string x.tx] 64)).heap.size:=by simp
   generalize (wr.alloc (.cells #[.string x.nm,.string x.tx] 64))=W at*
   have hwW:w.heap.size<W.heap.size:=by omega
   have hbW:b<W.heap.size:=by omega
   refine wp_region_held_drew (S:=(fun u=>u.cell? ⟨w.heap.size,0,none⟩=some (.slice (some ⟨b,off,none⟩) fs.length cap)/\u.cell? ⟨wr.heap.size,0,none⟩=some (.string x.nm)/\u.cell? ⟨wr.heap.size,1,none⟩=some (.string x.tx)/\u.cell? ⟨b,off+q*2,none⟩=some (.string y.nm))) (by kernel_rfl) ?_ (fun hH=>?_)
   · ((try dsimp only);go_keep)
   refine tq 0 hH ?_
   try simp only [qq]
   refine rq 1 (fun K hK=>?_)
   go_simp
   refine (c39v hx _ hsx.out).mono ?_
   rintro e w1 ⟨rfl,hb1⟩
   have HB1:Hid (Below W.heap.size W w1):=((Below.refl _ _).drew).trans hb1
   have p0:=(HB1.out.cell (p:=⟨w.heap.size,0,none⟩) hwW).trans t1
   have p1:=(HB1.out.cell (p:=⟨wr.heap.size,0,none⟩) hFW).trans f0
   have p2:=(HB1.out.cell (p:=⟨wr.heap.size,1,none⟩) hFW).trans f1
   have p3:=(HB1.out.cell (p:=⟨b,off+q*2,none⟩) hbW).trans y1
   go_wp2_with fail
   clear hH
   refine hK.out _ _ ?_ (fun hH=>?_)
   · ((try dsimp only);go_keep)
   clear hK K
   refine tq 2 hH ?_
   refine tq 3 hH ?_
   try simp only [qq]
   refine uq 4 hH ?_
   refine uq 5 hH ?_
   try simp only [qq]
   refine uq 6 hH ?_
   refine uq 7 hH ?_
   try simp only [qq]
   refine uq 8 hH ?_
   refine uq 9 hH ?_
   try simp only [qq]
   refine uq 10 hH ?_
   refine uq 11 hH ?_
   try simp only [qq]
   refine uq 12 hH ?_
   refine uq 13 hH ?_
   try simp only [qq]
   refine uq 14 hH ?_
   refine uq 15 hH ?_
   try simp only [qq]
   refine uq 16 hH ?_
   refine uq 17 hH ?_
   try simp only [qq]
   refine tq 18 hH ?_
   try simp only [qq]
   refine wpAnyH_done (by kernel_rfl) ?_ _
   have hB1:Below w.heap.size w w1:=HB.out.trans ((HBW.out.trans (HB1.out.mono (by omega))).mono HB.out.size)
   rw [hx,hy] at HS
   clear hH
   go_wp2
   go_ret
   exact ⟨⟨false,rfl,by simp only [Bool.false_eq_true,false_iff];intro h;have:=h.2 _ hlt;rw [HS.out] at this;cases this⟩,hB1⟩
 cases hy:Op.bytesLess y.nm.toList x.nm.toList
 · go_wp2_with fail
   have HBW:Hid (Below wr.heap.size wr (wr.alloc (.cells #[.string x.nm,.string x.tx] 64))):=(Below.refl _ _).alloc (Nat.le_refl _) _
   have t1:=(HBW.out.cell (p:=⟨w.heap.size,0,none⟩) (by show w.heap.size<wr.heap.size;omega)).trans t0
   have y1:=(HBW.out.cell (p:=⟨b,off+q*2,none⟩) hbr).trans g2
   have f0:(wr.alloc (.cells #[.string x.nm,.string x.tx] 64)).cell? ⟨wr.heap.size,0,none⟩=some (.string x.nm):=by simp
   have f1:(wr.alloc (.cells #[.string x.nm,.string x.tx] 64)).cell? ⟨wr.heap.size,1,none⟩=some (.string x.tx):=by simp
   have hFW:wr.heap.size<(wr.alloc (.cells #[.string x.nm,.string x.tx] 64)).heap.size:=by simp
   generalize (wr.alloc (.cells #[.string x.nm,.string x.tx] 64))=W at*
   have hwW:w.heap.size<W.heap.size:=by omega
   have hbW:b<W.heap.size:=by omega
   refine wp_region_held_drew (S:=(fun u=>u.cell? ⟨w.heap.size,0,none⟩=some (.slice (some ⟨b,off,none⟩) fs.length cap)/\u.cell? ⟨wr.heap.size,0,none⟩=some (.string x.nm)/\u.cell? ⟨wr.heap.size,1,none⟩=some (.string x.tx)/\u.cell? ⟨b,off+q*2,none⟩=some (.string y.nm))) (by kernel_rfl) ?_ (fun hH=>?_)
   · ((try dsimp only);go_keep)
   refine tq 0 hH ?_
   try simp only [qq]
   refine rq 1 (fun K hK=>?_)
   go_simp
   refine (c39v hx _ hsx.out).mono ?_
   rintro e w1 ⟨rfl,hb1⟩
   have HB1:Hid (Below W.heap.size W w1):=((Below.refl _ _).drew).trans hb1
   have p0:=(HB1.out.cell (p:=⟨w.heap.size,0,none⟩) hwW).trans t1
   have p1:=(HB1.out.cell (p:=⟨wr.heap.size,0,none⟩) hFW).trans f0
   have p2:=(HB1.out.cell (p:=⟨wr.heap.size,1,none⟩) hFW).trans f1
   have p3:=(HB1.out.cell (p:=⟨b,off+q*2,none⟩) hbW).trans y1
   go_wp2_with fail
   clear hH
   refine hK.out _ _ ?_ (fun hH=>?_)
   · ((try dsimp only);go_keep)
   clear hK K
   refine tq 2 hH ?_
   refine tq 3 hH ?_
   try simp only [qq]
   refine tq 4 hH ?_
   refine tq 5 hH ?_
   try simp only [qq]
   refine tq 6 hH ?_
   refine tq 7 hH ?_
   try simp only [qq]
   refine tq 8 hH ?_
   refine tq 9 hH ?_
   try simp only [qq]
   refine tq 10 hH ?_
   refine tq 11 hH ?_
   try simp only [qq]
   refine tq 12 hH ?_
   refine tq 13 hH ?_
   try simp only [qq]
   refine tq 14 hH ?_
   refine tq 15 hH ?_
   try simp only [qq]
   refine tq 16 hH ?_
   refine tq 17 hH ?_
   try simp only [qq]
   refine tq 18 hH ?_
   try simp only [qq]
   refine wpAnyH_done (by kernel_rfl) ?_ _
   have hB1:Below w.heap.size w w1:=HB.out.trans ((HBW.out.trans (HB1.out.mono (by omega))).mono HB.out.size)
   rw [hx,hy] at HS
   clear hH
   go_wp2
   go_ret
   exact ⟨⟨false,rfl,by simp only [Bool.false_eq_true,false_iff];intro h;have:=h.2 _ hlt;rw [HS.out] at this;cases this⟩,hB1⟩
 go_wp2_with fail
 have HBW:Hid (Below wr.heap.size wr (wr.alloc (.cells #[.string x.nm,.string x.tx] 64))):=(Below.refl _ _).alloc (Nat.le_refl _) _
 have t1:=(HBW.out.cell (p:=⟨w.heap.size,0,none⟩) (by show w.heap.size<wr.heap.size;omega)).trans t0
 have y1:=(HBW.out.cell (p:=⟨b,off+q*2,none⟩) hbr).trans g2
 have f0:(wr.alloc (.cells #[.string x.nm,.string x.tx] 64)).cell? ⟨wr.heap.size,0,none⟩=some (.string x.nm):=by simp
 have f1:(wr.alloc (.cells #[.string x.nm,.string x.tx] 64)).cell? ⟨wr.heap.size,1,none⟩=some (.string x.tx):=by simp
 have hFW:wr.heap.size<(wr.alloc (.cells #[.string x.nm,.string x.tx] 64)).heap.size:=by simp
 generalize (wr.alloc (.cells #[.string x.nm,.string x.tx] 64))=W at*
 have hwW:w.heap.size<W.heap.size:=by omega
 have hbW:b<W.heap.size:=by omega
 refine wp_region_held_drew (S:=(fun u=>u.cell? ⟨w.heap.size,0,none⟩=some (.slice (some ⟨b,off,none⟩) fs.length cap)/\u.cell? ⟨wr.heap.size,0,none⟩=some (.string x.nm)/\u.cell? ⟨wr.heap.size,1,none⟩=some (.string x.tx)/\u.cell? ⟨b,off+q*2,none⟩=some (.string y.nm))) (by kernel_rfl) ?_ (fun hH=>?_)
 · ((try dsimp only);go_keep)
 refine tq 0 hH ?_
 try simp only [qq]
 refine rq 1 (fun K hK=>?_)
 go_simp
 refine (c39v hx _ hsx.out).mono ?_
 rintro e w1 ⟨rfl,hb1⟩
 have HB1:Hid (Below W.heap.size W w1):=((Below.refl _ _).drew).trans hb1
 have p0:=(HB1.out.cell (p:=⟨w.heap.size,0,none⟩) hwW).trans t1
 have p1:=(HB1.out.cell (p:=⟨wr.heap.size,0,none⟩) hFW).trans f0
 have p2:=(HB1.out.cell (p:=⟨wr.heap.size,1,none⟩) hFW).trans f1
 have p3:=(HB1.out.cell (p:=⟨b,off+q*2,none⟩) hbW).trans y1
 go_wp2_with fail
 clear hH
 refine hK.out _ _ ?_ (fun hH=>?_)
 · ((try dsimp only);go_keep)
 clear hK K
 refine tq 2 hH ?_
 refine tq 3 hH ?_
 try simp only [qq]
 refine tq 4 hH ?_
 refine tq 5 hH ?_
 try simp only [qq]
 refine tq 6 hH ?_
 refine tq 7 hH ?_
 try simp only [qq]
 refine tq 8 hH ?_
 refine tq 9 hH ?_
 try simp only [qq]
 refine tq 10 hH ?_
 refine tq 11 hH ?_
 try simp only [qq]
 refine tq 12 hH ?_
 refine tq 13 hH ?_
 try simp only [qq]
 refine tq 14 hH ?_
 refine tq 15 hH ?_
 try simp only [qq]
 refine tq 16 hH ?_
 refine tq 17 hH ?_
 try simp only [qq]
 refine tq 18 hH ?_
 try simp only [qq]
 refine wpAnyH_done (by kernel_rfl) ?_ _
 have hB1:Below w.heap.size w w1:=HB.out.trans ((HBW.out.trans (HB1.out.mono (by omega))).mono HB.out.size)
 have hz1:w.heap.size+1<=w1.heap.size:=by have:=HB1.out.size;omega
 rw [hx,hy] at HS
 have hd':Hid (∀ j,j<k+1->stepOk fs j=true):=fun j hj=>by
  rcases Nat.lt_or_ge j k with h | h
  · exact hdone.out j h
  obtain rfl:j=k:=by omega
  exact HS.out
 clear hH
 go_wp2
 go_roundw
 case rel=>exact ⟨k+1,by omega,by go_num,hB1,p0,hz1,hd'⟩
 case measure=>simp [intOf];omega
theorem files_setCell {w:World} {g:Nat} {is:List F2} {q:Addr} {v:Value} (h:FilesAt w (some ⟨g,0,none⟩) is) (hq:q.block≠g):FilesAt (w.setCell q v) (some ⟨g,0,none⟩) is:=by
 rcases h with h | ⟨b,off,h1,h2,h3⟩
 · exact .inl h
 have hg:b=g:=by injection h1 with h1;injection h1 with h1 _;exact h1.symm
 have hne:∀ j,q≠⟨b,j,none⟩:=fun j e=>hq (by rw [e];exact hg)
 refine .inr ⟨b,off,h1,by simpa using h2,fun i hi=>?_⟩
 rw [World.cell?_setCell_other _ _ _ _ (hne _),World.cell?_setCell_other _ _ _ _ (hne _)]
 exact h3 i hi
theorem c4 (a:Option Addr) (cap:Nat) (is:List F2) (w:World) (hs:∀ i,(is.getD i f2z).le 9223372036854775807) (hl:is.length<=9223372036854775807) (hat:FilesAt w a is):
 Calls prog 4 #[.agg #[.slice a is.length cap],.int .i64 1048576] w fun e w'=>(∃ r:Int,e=.returned (.int .i64 r)/\(0<=r->is.length<=1048576/\(∀ i,(is.getD i f2z).le 1048576)/\r<=1048576))/\Below w.heap.size w w':=by
 have HA:Hid (FilesAt w a is):=hat
 clear hat
 go_enter func4,ntmps4
 go_wp2_with fail
 refine (c13 a cap is 1048576 _ hs hl (files_below HA.out ((Below.refl _ _).alloc (Nat.le_refl _) _)) (by omega) (by omega)).mono ?_
 rintro e w1 ⟨⟨r,rfl,hr⟩,hb1⟩
 have HR:Hid (0<=r->is.length<=1048576/\(∀ i,(is.getD i f2z).le 1048576)/\r<=1048576):=hr
 have hB:Below w.heap.size w w1:=((Below.refl _ _).alloc (Nat.le_refl _) _).trans (hb1.mono (by simp))
 clear hr
 by_cases hneg:r<0
 · go_wp2
   go_ret
   exact ⟨⟨-1,rfl,fun h=>by omega⟩,hB⟩
 go_wp2
 go_ret
 exact ⟨⟨r,rfl,HR.out⟩,hB⟩
theorem c6 (a:Option Addr) (cap:Nat) (is:List F2) (w:World) (hl:is.length<=1048576) (hat:FilesAt w a is):
 Calls prog 6 #[.agg #[.slice a is.length cap]] w fun e w'=>(∃ g,w.heap.size<=g/\e=.returned (.agg #[.slice (some ⟨g,0,none⟩) is.length is.length])/\FilesAt w' (some ⟨g,0,none⟩) is/\Unf w' g)/\Below w.heap.size w w':=by
 have HA:Hid (FilesAt w a is):=hat
 clear hat
 go_enter func6,ntmps6
 go_wp2_with fail
 refine (c18 a cap is _ hl (files_below HA.out ((((Below.refl _ _).alloc (Nat.le_refl _) _).alloc (by simp) _).alloc (by simp;omega) _))).mono ?_
 rintro e w1 ⟨⟨rfl,h1,hu1⟩,hb1⟩
 have hsz:(((w.alloc (.cells #[.slice a is.length cap] 24)).alloc (.cells #[.slice none 0 0] 30)).alloc (.cells #[.slice none 0 0] 30)).heap.size=w.heap.size+3:=by simp
 have H1:Hid (FilesAt w1 (some ⟨w.heap.size+3,0,none⟩) is):=by rw [<- hsz];exact h1
 have HU:Hid (Unf w1 (w.heap.size+3)):=by rw [<- hsz];exact hu1
 have hB:Below w.heap.size w w1:=((((Below.refl _ _).alloc (Nat.le_refl _) _).alloc (by simp) _).alloc (by simp;omega) _).trans (hb1.mono (by simp;omega))
 have e1:w1.cell? ⟨w.heap.size+1,0,none⟩=some (.slice none 0 0):=(hb1.cell (p:=⟨w.heap.size+1,0,none⟩) (by simp)).trans (by simp [go_sem])
 have e2:w1.cell? ⟨w.heap.size+1+1,0,none⟩=some (.slice none 0 0):=(hb1.cell (p:=⟨w.heap.size+1+1,0,none⟩) (by simp)).trans (by simp [go_sem])
 have f1:w1.frozen? ⟨w.heap.size+1,0,none⟩=false:=(hb1.frozen (p:=⟨w.heap.size+1,0,none⟩) (by simp)).trans (by simp [go_sem])
 have f2:w1.frozen? ⟨w.heap.size+1+1,0,none⟩=false:=(hb1.frozen (p:=⟨w.heap.size+1+1,0,none⟩) (by simp)).trans (by simp [go_sem])
 clear h1 hu1 hsz
 go_wp2
 refine bodyPost_ret (v:=.agg #[.slice (some ⟨w.heap.size+3,0,none⟩) is.length is.length]) (by simp [results,Tryz.results6,go_sem,e1]) rfl ⟨⟨_,by omega,rfl,?_,HU.out.set.set⟩,?_⟩
 · exact files_setCell (files_setCell H1.out (by simp)) (by simp)
 exact (hB.setCell (by simp;omega) _).setCell (by simp) _
theorem c9 (a a':Option Addr) (cap cap':Nat) (is:List F2) (w:World) (hl:is.length<=1048576) (hat:FilesAt w a is) (hat':FilesAt w a' is):
 Calls prog 9 #[.agg #[.slice a is.length cap],.agg #[.slice a' is.length cap']] w fun e w'=>e=.returned (.bool true)/\Below w.heap.size w w':=by
 have HA:Hid (FilesAt w a is):=hat
 have HA':Hid (FilesAt w a' is):=hat'
 clear hat hat'
 have hB0:Below w.heap.size w ((w.alloc (.cells #[.slice a is.length cap] 30)).alloc (.cells #[.slice a' is.length cap'] 30)):=((Below.refl _ _).alloc (Nat.le_refl _) _).alloc (by simp) _
 go_enter func9,ntmps9
 go_wp2_with fail
 refine (c25 a a' cap cap' is _ hl (files_below HA.out hB0) (files_below HA'.out hB0)).mono ?_
 rintro e w1 ⟨rfl,hb1⟩
 go_wp2
 go_ret
 exact ⟨rfl,hB0.trans (hb1.mono hB0.size)⟩
structure But (b:Nat) (w w':World):Prop where
 os:w'.os=w.os
 tape:w'.tape=w.tape
 output:w'.output=w.output
 size:w.heap.size<=w'.heap.size
 block:∀ k,k<w.heap.size->k≠b->w'.heap[k]?=w.heap[k]?
theorem But.refl (b:Nat) (w:World):But b w w:=⟨rfl,rfl,rfl,Nat.le_refl _,fun _ _ _=>rfl⟩
theorem But.of_below {b:Nat} {w w':World} (h:Below w.heap.size w w'):But b w w':=⟨h.os,h.tape,h.output,h.size,fun k hk _=>h.block k hk⟩
theorem But.below {b B:Nat} {w w':World} (h:But b w w') (hB:B<=b) (hz:B<=w.heap.size):Below B w w':=⟨h.os,h.tape,h.output,h.size,fun k hk=>h.block k (by omega) (by omega)⟩
theorem But.cell {b:Nat} {w w':World} (h:But b w w') {p:Addr} (hp:p.block<w.heap.size) (hne:p.block≠b):w'.cell? p=w.cell? p:=by
 unfold World.cell?
 rw [h.block p.block hp hne]
theorem cmp_neg:∀ (a b:List UInt8),Lib.compareBytes a b<0↔Op.bytesLess a b=true
 | [],[]=>by simp [Lib.compareBytes,Op.bytesLess]
 | [],_::_=>by simp [Lib.compareBytes,Op.bytesLess]
 | _::_,[]=>by simp [Lib.compareBytes,Op.bytesLess]
 | x::a,y::b=>by
  have ih:=cmp_neg a b
  simp only [Lib.compareBytes,Op.bytesLess]
  by_cases h1:x<y
  · simp [h1]
  by_cases h2:y<x
  · have h3:¬ x=y:=fun e=>by subst e;exact UInt8.lt_irrefl x h2
    simp [h1,h2,h3]
  have h3:x=y:=UInt8.le_antisymm (UInt8.not_lt.1 h2) (UInt8.not_lt.1 h1)
  subst h3
  simp [h1,ih]
theorem cmp_zero:∀ (a b:List UInt8),Lib.compareBytes a b=0↔a=b
 | [],[]=>by simp [Lib.compareBytes]
 | [],_::_=>by simp [Lib.compareBytes]
 | _::_,[]=>by simp [Lib.compareBytes]
 | x::a,y::b=>by
  have ih:=cmp_zero a b
  simp only [Lib.compareBytes]
  by_cases h1:x<y
  · have h3:¬ x=y:=fun e=>by subst e;exact UInt8.lt_irrefl x h1
    simp [h1,h3]
  by_cases h2:y<x
  · have h3:¬ x=y:=fun e=>by subst e;exact UInt8.lt_irrefl x h2
    simp [h1,h2,h3]
  have h3:x=y:=UInt8.le_antisymm (UInt8.not_lt.1 h2) (UInt8.not_lt.1 h1)
  subst h3
  simp [h1,ih]
def lt (a b:ByteArray):Bool:=Op.bytesLess a.toList b.toList
def cmpB (a b:ByteArray):Int:=Lib.compareBytes a.data.toList b.data.toList
theorem cmpB_neg (a b:ByteArray):cmpB a b<0↔lt a b=true:=by
 unfold cmpB lt
 rw [cmp_neg,ByteArray.toList_eq,ByteArray.toList_eq]
theorem cmpB_zero (a b:ByteArray):cmpB a b=0↔a=b:=by
 unfold cmpB
 rw [cmp_zero]
 exact ⟨fun h=>ByteArray.ext (Array.toList_inj.1 h),fun h=>by rw [h]⟩
theorem c65 (a b:ByteArray) (w:World):
 Calls prog 65 #[.string a,.string b] w fun e w'=>e=.returned (.int .i64 (cmpB a b))/\w'=w:=by
 have hrun:∀ u:World,(callFunc 100 #[.string a,.string b]).run prog u=.ok (.value (.int .i64 (cmpB a b))) u:=fun u=>by
  rw [run_callFunc_extern func100 (by kernel_rfl) (by kernel_rfl) (by kernel_rfl) (e:=Extern.BytealgCompare.compare) (by kernel_rfl),Lib.run_compareString]
  rfl
 go_enter func65,ntmps65
 go_wp2
 go_ret
 exact ⟨rfl,rfl⟩
theorem c43 (a b:ByteArray) (w:World):
 Calls prog 43 #[.string a,.string b] w fun e w'=>e=.returned (.int .i64 (cmpB a b))/\w'=w:=by
 go_enter func43,ntmps43
 go_wp2_with fail
 refine (c65 a b _).mono ?_
 rintro e w1 ⟨rfl,hw⟩
 obtain rfl:=hw.symm
 go_wp2
 go_ret
 exact ⟨rfl,rfl⟩
theorem c132 (x:F2) (b:ByteArray) (w:World):
 Calls prog 132 #[.agg #[.string x.nm,.string x.tx],.string b] w fun e w'=>e=.returned (.int .i64 (cmpB x.nm b))/\Below w.heap.size w w':=by
 go_enter func132,ntmps132
 go_wp2_with fail
 refine (c43 x.nm b _).mono ?_
 rintro e w1 ⟨rfl,hw⟩
 obtain rfl:=hw.symm
 go_wp2
 go_ret
 exact ⟨rfl,(Below.refl _ _).alloc (Nat.le_refl _) _⟩
theorem less_trans:∀ (a b c:List UInt8),Op.bytesLess a b=true->Op.bytesLess b c=true->Op.bytesLess a c=true
 | _,[],_,h,_=>by simp [Op.bytesLess] at h
 | _,_::_,[],_,h=>by simp [Op.bytesLess] at h
 | [],_::_,_::_,_,_=>by simp [Op.bytesLess]
 | x::a,y::b,z::c,h,k=>by
  have ih:=less_trans a b c
  simp only [Op.bytesLess,Bool.or_eq_true,Bool.and_eq_true,decide_eq_true_eq,beq_iff_eq] at h k ⊢
  rcases h with h | ⟨rfl,h⟩
  · rcases k with k | ⟨rfl,k⟩
    · exact .inl (UInt8.lt_trans h k)
    exact .inl h
  rcases k with k | ⟨rfl,k⟩
  · exact .inl k
  exact .inr ⟨rfl,ih h k⟩
theorem less_irrefl:∀ (a:List UInt8),Op.bytesLess a a=false
 | []=>by simp [Op.bytesLess]
 | x::a=>by simp [Op.bytesLess,less_irrefl a]
theorem lt_trans' {a b c:ByteArray} (h:lt a b=true) (k:lt b c=true):lt a c=true:=less_trans _ _ _ h k
theorem lt_irrefl' (a:ByteArray):lt a a=false:=less_irrefl _
structure Place (fs:List F2) (t:ByteArray) (p:Nat) (f:Bool):Prop where
 le:p<=fs.length
 less:∀ j,j<p->lt (fs.getD j f2z).nm t=true
 more:∀ j,p<=j->j<fs.length->lt (fs.getD j f2z).nm t=false
 here:f=true↔p<fs.length/\(fs.getD p f2z).nm=t
def Asc (fs:List F2):Prop:=∀ i j,i<j->j<fs.length->lt (fs.getD i f2z).nm (fs.getD j f2z).nm=true
def Half (fs:List F2) (t:ByteArray) (i j:Nat):Prop:=(∀ q,q<i->lt (fs.getD q f2z).nm t=true)/\∀ q,j<=q->q<fs.length->lt (fs.getD q f2z).nm t=false
theorem half_up {fs:List F2} {t:ByteArray} {i j h:Nat} (hm:Asc fs) (hh:Half fs t i j) (hl:h<fs.length) (hx:lt (fs.getD h f2z).nm t=true):Half fs t (h+1) j:=by
 refine ⟨fun q hq=>?_,hh.2⟩
 rcases Nat.lt_or_ge q h with h1 | h1
 · exact lt_trans' (hm q h h1 hl) hx
 obtain rfl:q=h:=by omega
 exact hx
theorem half_down {fs:List F2} {t:ByteArray} {i j h:Nat} (hm:Asc fs) (hh:Half fs t i j) (hx:lt (fs.getD h f2z).nm t=false):Half fs t i h:=by
 refine ⟨hh.1,fun q hq hl=>?_⟩
 rcases Nat.lt_or_ge h q with h1 | h1
 · cases hc:lt (fs.getD q f2z).nm t
   · rfl
   rw [lt_trans' (hm h q h1 hl) hc] at hx;cases hx
 obtain rfl:q=h:=by omega
 exact hx
theorem c131 (a:Option Addr) (cap:Nat) (fs:List F2) (t:ByteArray) (w:World) (hl:fs.length<=40) (hat:FilesAt w a fs) (hm:Asc fs):
 Calls prog 131 #[.slice a fs.length cap,.string t,.func (.func 132) #[] #[]] w fun e w'=>(∃ p f,e=.returned (.tuple #[.int .i64 (p:Nat),.bool f])/\Place fs t p f)/\Below w.heap.size w w':=by
 obtain ⟨b,off,hc⟩:=files_some hat
 have HC:Hid (fs=[]\/(a=some ⟨b,off,none⟩/\b<w.heap.size/\∀ i,i<fs.length->w.cell? ⟨b,off+i*2,none⟩=some (.string (fs.getD i f2z).nm)/\w.cell? ⟨b,off+i*2+1,none⟩=some (.string (fs.getD i f2z).tx))):=hc
 have HM:Hid (Asc fs):=hm
 clear hc hat hm
 go_enter func131,ntmps131
 go_wp2_with fail
 go_loopw [9,10] (fun vi vj wr=>∃ i j:Nat,i<=j/\j<=fs.length/\vi=.int .i64 i/\vj=.int .i64 j/\Below w.heap.size w wr/\Hid (Half fs t i j)) (fun vi vj _=>(intOf vj).toNat - (intOf vi).toNat)
 case atStart=>exact ⟨0,fs.length,Nat.zero_le _,Nat.le_refl _,rfl,rfl,Below.refl _ _,⟨fun q h=>absurd h (Nat.not_lt_zero _),fun q h k=>by omega⟩⟩
 obtain ⟨i,j,hij,hj,rfl,rfl,hb,hh⟩:=hrel
 by_cases hlt:i<j
 rotate_left
 · obtain rfl:i=j:=by omega
   by_cases hin:i<fs.length
   rotate_left
   · have HP:Hid (Place fs t i false):=⟨by omega,hh.out.1,hh.out.2,by simp;omega⟩
     have hd:decide ((i:Int)<(fs.length:Int))=false:=decide_eq_false (by omega)
     go_wp2
     all_goals go_ret2
     all_goals exact ⟨⟨i,false,rfl,HP.out⟩,hb⟩
   rcases HC.out with hss | ⟨ha,hbw,hcell⟩
   · rw [hss] at hin;exact absurd hin (Nat.not_lt_zero _)
   subst ha
   have g0:=(hb.cell (p:=⟨b,off+i*2,none⟩) hbw).trans (hcell i hin).1
   have g1:=(hb.cell (p:=⟨b,off+i*2+1,none⟩) hbw).trans (hcell i hin).2
   have HP:Hid (∀ f:Bool,(f=true↔(fs.getD i f2z).nm=t)->Place fs t i f):=fun f hf=>⟨by omega,hh.out.1,hh.out.2,hf.trans ⟨fun h=>⟨hin,h⟩,fun h=>h.2⟩⟩
   generalize fs.getD i f2z=x at*
   clear hcell
   go_wp2_with fail
   refine (c132 x t wr).mono ?_
   rintro e w1 ⟨rfl,hb1⟩
   have hB1:Below w.heap.size w w1:=hb.trans (hb1.mono hb.size)
   go_wp2
   all_goals go_ret2
   all_goals exact ⟨⟨i,_,rfl,HP.out _ (by rw [<- cmpB_zero];simp)⟩,hB1⟩
 rcases HC.out with hss | ⟨ha,hbw,hcell⟩
 · rw [hss] at hj;simp at hj;omega
 subst ha
 have hhl:(i+j) / 2<fs.length:=by omega
 have g0:=(hb.cell (p:=⟨b,off+(i+j) / 2*2,none⟩) hbw).trans (hcell _ hhl).1
 have g1:=(hb.cell (p:=⟨b,off+(i+j) / 2*2+1,none⟩) hbw).trans (hcell _ hhl).2
 have HU:Hid (lt (fs.getD ((i+j) / 2) f2z).nm t=true->Half fs t ((i+j) / 2+1) j):=fun hx=>half_up HM.out hh.out hhl hx
 have HD:Hid (lt (fs.getD ((i+j) / 2) f2z).nm t=false->Half fs t i ((i+j) / 2)):=fun hx=>half_down HM.out hh.out hx
 generalize fs.getD ((i+j) / 2) f2z=x at*
 clear hcell
 go_wp2_with fail
 refine (c132 x t wr).mono ?_
 rintro e w1 ⟨rfl,hb1⟩
 have hB1:Below w.heap.size w w1:=hb.trans (hb1.mono hb.size)
 cases hx:lt x.nm t
 · have hc:¬ cmpB x.nm t<0:=fun h=>by rw [(cmpB_neg _ _).1 h] at hx;cases hx
   have hc1:decide (cmpB x.nm t<0)=false:=decide_eq_false hc
   have hn:Hid (Half fs t i ((i+j) / 2)):=HD.out hx
   clear hx hb1 HU HD
   go_wp2
   go_roundw
   case rel=>exact ⟨i,(i+j) / 2,by omega,by omega,rfl,by go_num,hB1,hn⟩
   case measure=>simp [intOf];omega
 have hc:cmpB x.nm t<0:=(cmpB_neg _ _).2 hx
 have hn:Hid (Half fs t ((i+j) / 2+1) j):=HU.out hx
 clear hx hb1 HU HD
 go_wp2
 go_roundw
 case rel=>exact ⟨(i+j) / 2+1,j,by omega,by omega,by go_num,rfl,hB1,hn⟩
 case measure=>simp [intOf];omega
theorem c102 (a:Option Addr) (cap:Nat) (fs:List F2) (t:ByteArray) (w:World) (hl:fs.length<=40) (hat:FilesAt w a fs) (hm:Asc fs):
 Calls prog 102 #[.agg #[.slice a fs.length cap],.string t] w fun e w'=>(∃ p f,e=.returned (.tuple #[.int .i64 (p:Nat),.bool f])/\Place fs t p f)/\Below w.heap.size w w':=by
 have HA:Hid (FilesAt w a fs):=hat
 have HM:Hid (Asc fs):=hm
 have hB0:Below w.heap.size w (w.alloc (.cells #[.slice a fs.length cap] 30)):=(Below.refl _ _).alloc (Nat.le_refl _) _
 clear hat hm
 go_enter func102,ntmps102
 go_wp2_with fail
 refine (c131 a cap fs t _ hl (files_below HA.out hB0) HM.out).mono ?_
 rintro e w1 ⟨⟨p,f,rfl,hp⟩,hb1⟩
 have HP:Hid (Place fs t p f):=hp
 clear hp
 go_wp2
 go_ret2
 exact ⟨⟨p,f,rfl,HP.out⟩,hB0.trans (hb1.mono hB0.size)⟩
theorem asc_of {fs:List F2} (h:treeOk fs):Asc fs:=by
 have step:∀ j,j+1<fs.length->lt (fs.getD j f2z).nm (fs.getD (j+1) f2z).nm=true:=fun j hj=>by
  have:=h.2 (j+1) hj
  unfold stepOk at this
  simp only [Bool.and_eq_true,Bool.or_eq_true,decide_eq_true_eq] at this
  rcases this.2 with h | h
  · omega
  exact h
 intro i j hij
 induction j with
 | zero=>omega
 | succ j ih=>
  intro hj
  rcases Nat.lt_or_ge i j with h1 | h1
  · exact lt_trans' (ih h1 (by omega)) (step j hj)
  obtain rfl:i=j:=by omega
  exact step i hj
theorem c56 (a:Option Addr) (cap:Nat) (fs:List F2) (nm:ByteArray) (w:World) (hl:fs.length<=1048576) (hat:FilesAt w a fs):
 Calls prog 56 #[.agg #[.slice a fs.length cap],.string nm] w fun e w'=>(∃ r:Int,e=.returned (.int .i64 r)/\((r=-1/\∀ i,i<fs.length->(fs.getD i f2z).nm≠nm)\/∃ i:Nat,r=i/\i<fs.length/\(fs.getD i f2z).nm=nm))/\Below w.heap.size w w':=by
 obtain ⟨b,off,hc⟩:=files_some hat
 have HC:Hid (fs=[]\/(a=some ⟨b,off,none⟩/\b<w.heap.size/\∀ i,i<fs.length->w.cell? ⟨b,off+i*2,none⟩=some (.string (fs.getD i f2z).nm)/\w.cell? ⟨b,off+i*2+1,none⟩=some (.string (fs.getD i f2z).tx))):=hc
 have HB:Below w.heap.size w (w.alloc (.cells #[.slice a fs.length cap] 30)):=(Below.refl _ _).alloc (Nat.le_refl _) _
 clear hc hat
 go_enter func56,ntmps56
 go_wp2_with fail
 go_loop [5] (fun i=>∃ k:Nat,k<=fs.length/\i=.int .i64 k/\Hid (∀ j,j<k->(fs.getD j f2z).nm≠nm)) (fun i=>fs.length - (intOf i).toNat)
 case atStart=>exact ⟨0,Nat.zero_le _,rfl,fun j h=>absurd h (Nat.not_lt_zero _)⟩
 obtain ⟨k,hk,rfl,hno⟩:=hrel
 by_cases hlt:k<fs.length
 rotate_left
 · go_wp2
   go_ret
   exact ⟨⟨-1,rfl,.inl ⟨rfl,fun i hi=>hno.out i (by omega)⟩⟩,HB⟩
 rcases HC.out with hss | ⟨ha,hbw,hcell⟩
 · rw [hss] at hlt;exact absurd hlt (Nat.not_lt_zero _)
 subst ha
 have g0:=(HB.cell (p:=⟨b,off+k*2,none⟩) hbw).trans (hcell k hlt).1
 have HX:Hid (∃ x,x=fs.getD k f2z):=⟨_,rfl⟩
 obtain ⟨x,hx⟩:=HX.out
 rw [<- hx] at g0
 have HXE:Hid (x=fs.getD k f2z):=hx
 clear hcell hx HX
 cases hq:(x.nm.toList==nm.toList)
 · have hno':Hid (∀ j,j<k+1->(fs.getD j f2z).nm≠nm):=fun j hj=>by
    rcases Nat.lt_or_ge j k with h | h
    · exact hno.out j h
    obtain rfl:j=k:=by omega
    rw [<- HXE.out]
    intro e
    rw [e] at hq
    simp at hq
   go_wp2
   go_round
   case rel=>exact ⟨k+1,by omega,by go_num,hno'⟩
   case measure=>simp [intOf];omega
 have he:x.nm=nm:=by
  have:=beq_iff_eq.1 hq
  rw [ByteArray.toList_eq,ByteArray.toList_eq] at this
  exact ByteArray.ext (Array.toList_inj.1 this)
 have HR:Hid (∃ i:Nat,(k:Int)=i/\i<fs.length/\(fs.getD i f2z).nm=nm):=⟨k,rfl,hlt,by rw [<- HXE.out];exact he⟩
 clear he
 go_wp2
 go_ret
 exact ⟨⟨_,rfl,.inr HR.out⟩,HB⟩
end Go.Proofs.YthfmmimmfcnhmaaGreatDoor.G.T
